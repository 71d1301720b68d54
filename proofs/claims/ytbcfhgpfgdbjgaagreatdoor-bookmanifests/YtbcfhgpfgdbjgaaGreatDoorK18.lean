import Derived.Test.YtbcfhgpfgdbjgaaGreatDoorK09
import Derived.Test.YtbcfhgpfgdbjgaaGreatDoorK13
set_option linter.all false
set_option maxRecDepth 100000
set_option maxHeartbeats 0
open Go.Proofs.Tryz
namespace Go.Proofs.YtbcfhgpfgdbjgaaGreatDoor
open Go.RowKit
variable{w w':World}
def VAt(w:World)(p:Addr)(t:V):Prop:=w.cell? p=some (.int .i64 t.major)/\w.cell? ⟨p.block,p.off+1,none⟩=some (.int .i64 t.minor)/\w.cell? ⟨p.block,p.off+2,none⟩=some (.int .i64 t.patch)/\w.cell? ⟨p.block,p.off+3,none⟩=some (.string ⟨t.pre.toArray⟩)/\w.cell? ⟨p.block,p.off+4,none⟩=some (.string ⟨#[]⟩)
theorem VAt.grow{p:Addr}{t:V}(h:VAt w p t)(hg:w.grownBy w' none):VAt w' p t :=
 ⟨hg.cell h.1 (by simp),hg.cell h.2.1 (by simp),hg.cell h.2.2.1 (by simp),hg.cell h.2.2.2.1 (by simp),hg.cell h.2.2.2.2 (by simp)⟩
def VsAt(w:World)(a:Addr)(l:List V):Prop:=∀i (hi:i<l.length),VAt w (a.add (i*5)) l[i]
theorem VsAt.grow{a:Addr}{l:List V}(h:VsAt w a l)(hg:w.grownBy w' none):VsAt w' a l:=fun i hi=>(h i hi).grow hg
open Go.Joins
theorem afs(R:Nat)(s:ByteArray)(L O:Value)(now de i:Nat)(w:World)(h:Dd w R s L O now de i 0 0)(hi:i<s.size)(hs:s.size<=1048576)(hx:nx s.data.toList i=43\/nx s.data.toList i=45\/aI (nx s.data.toList i)=true) :
  Calls prog 87 #[.pointer (some ⟨R,0,none⟩)] w (ad3 R s L O now de (ji s.data.toList i) w):=by
 rw[ad4];have hl:s.data.toList.length=s.size:=by simp
 have CI:Hd (∀c w,0<=c->Ds w R s L O now de (.ok i)->Calls prog 39 #[.pointer (some ⟨R,0,none⟩),.int .u8 c] w fun e w'=>e=.returned (.bool (decide (nx s.data.toList i=c)))/\w.grownBy w' none):=fun c w h0 h1=>uk R s L O now de (.ok i) c h0 w h1 hs
 obtain⟨m,hm⟩:=zN (decide (nx s.data.toList i=45));obtain⟨m2,hm2⟩:=zN (decide (nx s.data.toList i=43));obtain⟨a,ha⟩:=zN ((if aI (nx s.data.toList i)=true then i else i+1));have oZ:Hd ((m=true/\i+1=a)\/(m=false/\m2=true/\i+1=a)\/(m=false/\m2=false/\i=a)):=by
  by_cases h45:nx s.data.toList i=45
  ·exact Or.inl ⟨by rw[<-hm];exact decide_eq_true h45,by rw[<-ha,if_neg (by rw[h45];decide)]⟩
  ·by_cases h43:nx s.data.toList i=43
   ·exact Or.inr (Or.inl ⟨by rw[<-hm];exact decide_eq_false h45,by rw[<-hm2];exact decide_eq_true h43,by rw[<-ha,if_neg (by rw[h43];decide)]⟩)
   ·exact Or.inr (Or.inr ⟨by rw[<-hm];exact decide_eq_false h45,by rw[<-hm2];exact decide_eq_false h43,by rw[<-ha,if_pos (by rcases hx with h|h|h;exact(h43 h).elim;exact(h45 h).elim;exact h)]⟩)
 have aft:=ae (fun w (h:Ds w R s L O now de (.ok i))=>hm ▸ CI.o 45 w (by decide) h);have XI:=ae (fun w (h:Ds w R s L O now de (.ok i))=>hm2 ▸ CI.o 43 w (by decide) h);have HD:=ae h;have hai:a<=s.size:=by have:=oZ.o;omega
 have hai1:a<=i+1:=by have:=oZ.o;omega
 obtain⟨p,hp⟩:=zN (i);rw[ha,hm];obtain⟨sg,hsg⟩:∃sg:Nat->Int,(fun n:Nat=>if m=true then -(n:Int) else(n:Int))=sg:=⟨_,rfl⟩;have lg:Hd (∀n:Nat,(if m=true then -(n:Int) else(n:Int))=sg n):=fun n=>by rw[<-hsg]
 obtain⟨G,hG⟩:=zN (Ol s.data.toList i a m);rw[hG];have iT:Hd ((if toR aI s.data.toList a=a\/(1<toR aI s.data.toList a-a/\nx s.data.toList a=48) then .error (2,a)
  else if 18<toR aI s.data.toList a-a then .error (3,p)
  else .ok (sg (iR (au s.data.toList a (toR aI s.data.toList a-a)) 0),toR aI s.data.toList a))=G):=by rw[<-hsg,<-hp];exact hG
 obtain⟨c0,c1,-,-,-,c5,-,-,df⟩:=h.cells;have df1:=df 1;rw[hp]at c1;have HST:Hd (∀k (hk:k<s.size),aI (s[k].toNat:Int)=true->toR aI s.data.toList k=toR aI s.data.toList (k+1)):=fun k hk hb=>rO aI _ k (by omega) (by rw[byte_at s k hk];exact hb)
 have gQ:=ae (fun k (hk:k<s.size) (hb:aI (s[k].toNat:Int)=false)=>mJ aI _ k (by rw[byte_at s k hk];exact hb));have mO:Hd (∀k,s.size<=k->toR aI s.data.toList k=k):=fun k hk=>Em aI _ k (by omega)
 have iU:Hd (∀k n,jl (au s.data.toList a (k-a)) 0=n->a<=k->(hk:k<s.size)->jl (au s.data.toList a (k+1-a)) 0=if n<=99999999999999999 then 10*n+(s[k].toNat - 48) else 1000000000000000000):=fun k n h1 h2 h3=>ad6 s.data.toList a k n h1 h2 (by omega)
 have dF:Hd (∀k,(∀c∈au s.data.toList a (k-a),c.toNat<=57)->a<=k->(hk:k<s.size)->s[k].toNat<=57->∀c∈au s.data.toList a (k+1-a),c.toNat<=57):=fun k h1 h2 h3 h4=>ad5 s.data.toList a k h1 h2 (by omega) h4
 have zI:=ae (fun k (h1:(∀c∈au s.data.toList a (k-a),c.toNat<=57)) (h2:a<=k) (h3:k<=s.size) (h4:k-a<=18)=>WA s.data.toList a k h1 h2 (by omega) h4);have HHI:=ae (fun k (h1:(∀c∈au s.data.toList a (k-a),c.toNat<=57)) (h2:a<=k) (h3:k<=s.size) (h4:18<k-a) (h5:49<=nx s.data.toList a)=>ad7 s.data.toList a k h1 h2 (by omega) h4 h5);have ed:=ae (ad8 s.data.toList a);have HXB:Hd (∀k (hk:k<s.size),nx s.data.toList k=(s[k].toNat:Int)):=byte_at s;have jW:Hd (Ds w R s L O now de (.ok i)):=⟨by omega,h⟩;clear h hG ha hm hm2 df hx hsg hp;go_enter func87,ntmps87;go_wp2_with (go_at_call 39;refine(aft.o _ jW.o).mono ?_)
 first|rintro e w1 rfl hg1|rintro e w1 ⟨rfl,hg1⟩
 have aC:=ae hg1;clear hg1;have XJ:=ae (jW.o.grow aC.o)
 rcases oZ.o with q1|q2|q3
 all_goals (
  clear oZ
  first
   | (obtain⟨rfl,ha⟩:=q1
      have HG2:=ae aC.o;obtain⟨w2,hw2⟩:=zN (w1);rw[hw2]at HG2 ⊢;clear hw2)
   | (obtain⟨rfl,rfl,ha⟩:=q2
      go_wp2_with (go_at_call 39;refine(XI.o _ XJ.o).mono ?_)
      first|rintro e w2 rfl hg2|rintro e w2 ⟨rfl,hg2⟩
      have HG2:=ae (ak aC.o hg2);clear hg2)
   | (obtain⟨rfl,rfl,ha⟩:=q3
      go_wp2_with (go_at_call 39;refine(XI.o _ XJ.o).mono ?_)
      first|rintro e w2 rfl hg2|rintro e w2 ⟨rfl,hg2⟩
      have HG2:=ae (ak aC.o hg2);clear hg2)
  obtain⟨e0,e1,-,-,-,e5,-,-,ef⟩:=(HD.o.grow HG2.o).cells;have ef1:=ef 1;clear ef;go_wp2
  first
   | (have ha':a=i:=ha.symm
      subst ha';have aF:=ae (HD.o.grow HG2.o);have dh:=ae (aP (ax w (some R)) HG2.o);obtain⟨wA,hwA⟩:=zN w2;rw[hwA]at aF dh ⊢;clear hwA)
   | (have aF:Hd (Dd (w2.setCell ⟨R,1,none⟩ (.int .i64 ((i:Int)+1))) R s L O now de (i+1) 0 0):=(HD.o.grow HG2.o).setI (i+1)
      have dh:Hd (w.grownBy (w2.setCell ⟨R,1,none⟩ (.int .i64 ((i:Int)+1))) (some R)):=aT (aP (ax w (some R)) HG2.o) 1 _;obtain⟨wA,hwA⟩:=zN (w2.setCell ⟨R,1,none⟩ (.int .i64 ((i:Int)+1)));rw[hwA]at aF dh ⊢;rw[ha]at aF;have hcast:((i:Int)+1)=(a:Int):=by omega
      simp only[hcast];clear hwA hcast)
  try clear ha
  go_loopw [6] (fun vn wr=>∃k n:Nat,vn=.int .i64 (n:Nat)/\Dd wr R s L O now de k 0 0/\a<=k/\k<=s.size/\toR aI s.data.toList k=toR aI s.data.toList a/\jl (au s.data.toList a (k-a)) 0=n/\n<=1000000000000000000/\(∀c∈au s.data.toList a (k-a),c.toNat<=57)/\w.grownBy wr (some R)) (fun _ wr=>s.size-dI wr R)
  case atStart=>exact⟨a,0,rfl,aF.o,by omega,hai,rfl,by rw[Nat.sub_self];rfl,by omega,fun c hc=>(by rw[Nat.sub_self]at hc;unfold au at hc;rw[List.take_zero]at hc;cases hc),dh.o⟩
  case round=>
   obtain⟨k,n,rfl,hd,hak,hk,hto,XK,ak1,hall,hg⟩:=hrel;have HDK:Hd (Dd _ R s L O now de k 0 0):=hd;have kz:Hd (w.grownBy _ (some R)):=hg;have eY:Hd (dI _ R=k):=xH hd;have nO:=ae hto;have JI:=ae XK;have ou:=ae hall;obtain⟨c0,c1,-,-,-,c5,-,-,df⟩:=hd.cells;have df1:=df 1;clear hd hg hto XK hall df;have hst:(∃hlt:k<s.size,aI (s[k].toNat:Int)=true)\/(toR aI s.data.toList a=k/\((∃hlt:k<s.size,aI (s[k].toNat:Int)=false)\/¬k<s.size)):=by
    by_cases hlt:k<s.size
    ·cases hb:aI (s[k].toNat:Int) with
     |true=>exact Or.inl ⟨hlt,hb⟩
     |false=>exact Or.inr ⟨nO.o.symm.trans (gQ.o k hlt hb),Or.inl ⟨hlt,hb⟩⟩
    ·exact Or.inr ⟨nO.o.symm.trans (mO.o k (by omega)),Or.inr hlt⟩
   rcases hst with⟨hlt,hb⟩|⟨hJ,e1|e2⟩
   ·have hlt':decide ((k:Int)<(s.size:Int))=true:=by simp;omega
    have CB:Hd (∀w,Calls prog 47 #[.int .u8 (s[k].toNat:Int)] w fun e w'=>e=.returned (.bool true)/\w'=w):=fun w=>by have:=Bl s[k] w;rw[hb]at this;exact this
    have HN:=ae ((HST.o k hlt hb).symm.trans nO.o);obtain⟨h48,h57⟩:48<=s[k].toNat/\s[k].toNat<=57:=by
     unfold aI at hb;have:=of_decide_eq_true hb;omega
    have XL:=ae (dF.o k ou.o hak hlt h57);have H4:=ae (iU.o k n JI.o hak hlt);clear hb;go_wp2;go_quiet (first|(go_at_call 47;exact Calls.quiet_of_same (CB.o _)));have bg:Hd (Dd (wr.drewN nq) R s L O now de k 0 0):=HDK.o;have aW:=ae (az kz.o nq);obtain⟨wB,hwB⟩:=zN (wr.drewN nq);rw[hwB]at bg aW ⊢;obtain⟨d0,d1,-,-,-,d5,-,-,dg⟩:=bg.o.cells;have dg1:=dg 1;have XM:Hd (Dd (wB.setCell ⟨R,1,none⟩ (.int .i64 ((k:Int)+1))) R s L O now de (k+1) 0 0):=bg.o.setI (k+1);clear hwB dg
    by_cases hsm:n<=99999999999999999
    ·have afu:(n:Int)<=99999999999999999:=by omega
     have FT:Hd (jl (au s.data.toList a (k+1-a)) 0=10*n+(s[k].toNat - 48)):=by
      have:=H4.o;rw[if_pos hsm]at this;exact this
     have XN:Hd (10*(n:Int)+(s[k].toNat:Int)-48=((10*n+(s[k].toNat - 48):Nat):Int)):=by show _=_;omega
     go_wp2;go_quiet (fail);have lm:Hd (Dd (wB.drewN nq) R s L O now de k 0 0):=bg.o;have dU:=ae (az aW.o nq);obtain⟨wC,oU⟩:=zN (wB.drewN nq);rw[oU]at lm dU ⊢;obtain⟨f0,f1,-,-,-,f5,-,-,fg⟩:=lm.o.cells;have fg1:=fg 1;have XO:Hd (Dd (wC.setCell ⟨R,1,none⟩ (.int .i64 ((k:Int)+1))) R s L O now de (k+1) 0 0):=lm.o.setI (k+1);clear oU fg;go_wp2;refine⟨⟨k+1,10*n+(s[k].toNat - 48),by first|rfl|rw[XN.o]|(congr 1;have:=XN.o;omega),XO.o,by omega,by omega,HN.o,FT.o,by omega,XL.o,aT dU.o 1 _⟩,?_⟩;rw[eY.o,xH XO.o];omega
    ·have afu:¬(n:Int)<=99999999999999999:=by omega
     have ak2:(99999999999999999:Int)<(n:Int):=by omega
     have FT:Hd (jl (au s.data.toList a (k+1-a)) 0=1000000000000000000):=by
      have:=H4.o;rw[if_neg hsm]at this;exact this
     go_wp2;refine⟨⟨k+1,1000000000000000000,rfl,XM.o,by omega,by omega,HN.o,FT.o,by omega,XL.o,aT aW.o 1 _⟩,?_⟩;rw[eY.o,xH XM.o];omega
   all_goals (
    have HJ:=ae hJ;clear hJ
    first
     | (obtain⟨hlt,hb⟩:=e1
        have hlt':decide ((k:Int)<(s.size:Int))=true:=by simp;omega
        have CB:Hd (∀w,Calls prog 47 #[.int .u8 (s[k].toNat:Int)] w fun e w'=>e=.returned (.bool false)/\w'=w):=fun w=>by have:=Bl s[k] w;rw[hb]at this;exact this
        clear hb;go_wp2;go_quiet (first|(go_at_call 47;exact Calls.quiet_of_same (CB.o _))))
     | (have hge:decide ((k:Int)<(s.size:Int))=false:=by have:=e2;simp;omega
        go_wp2;go_quiet (fail))
    have bg:Hd (Dd (wr.drewN nq) R s L O now de k 0 0):=HDK.o;have aW:=ae (az kz.o nq);obtain⟨wB,hwB⟩:=zN (wr.drewN nq);rw[hwB]at bg aW ⊢;obtain⟨d0,d1,-,-,-,d5,-,-,dg⟩:=bg.o.cells;clear hwB dg;have Ph:=iT.o;rw[HJ.o]at Ph;have vZ:Hd (_=G):=Ph;have HNJ:Hd (¬k=a->48<=nx s.data.toList a/\nx s.data.toList a<=57):=fun hh=>ed.o (by rw[HJ.o];exact hh)
    have hsub:IntKind.i64.wrap ((k:Int)-(a:Int))=(k:Int)-(a:Int):=by rw[IntKind.wrap_i64];omega
    clear Ph;have Pj:=ae (fun wx (hg:Dd wx R s L O now de k 0 0)=>qK R s L O now de k 2 a wx hg);have CF3:=ae (fun wx (hg:Dd wx R s L O now de k 0 0)=>qK R s L O now de k 3 p wx hg);have CFN:=ae (fun wx (hg:Dd wx R s L O now de k 2 a)=>Nc R s L O now de k 2 a 3 p wx hg (by decide))
    by_cases hka:k=a
    ·have aJ:Hd (G=.error (2,a)):=by
      have:=vZ.o;rw[if_pos (Or.inl hka)]at this;exact this.symm
     have hn0:n=0:=by
      have:=JI.o;rw[hka,Nat.sub_self]at this;unfold au at this;rw[List.take_zero]at this;exact this.symm
     have hbk:((k:Int) == (a:Int))=true:=by simp[hka]
     have hmx:(n:Int)<=999999999999999999:=by omega
     clear hka hn0;go_wp2_with (go_at_call 58;refine(Pj.o _ bg.o).mono ?_;rintro e w3 ⟨rfl,hd3,hg3⟩);refine bodyPost_ret (results_tmp (t:=2) rfl _ _ _) rfl ?_;rw[aJ.o];exact⟨fun n j hh=>(by cases hh),fun c p hh=>(by cases hh;exact⟨⟨_,rfl⟩,by decide,k,hk,hd3⟩),dK aW.o hg3⟩
    ·have hbk:((k:Int) == (a:Int))=false:=by rw[beq_eq_false_iff_ne];omega
     have hal:a<s.size:=by omega
     have hxa:=HXB.o a hal;obtain⟨hn1,hn2⟩:=HNJ.o hka
     by_cases hlz:1<k-a/\nx s.data.toList a=48
     ·have aJ:Hd (G=.error (2,a)):=by
       have:=vZ.o;rw[if_pos (Or.inr hlz)]at this;exact this.symm
      have h1k:(1:Int)<(k:Int)-(a:Int):=by omega
      have hb48:((s[a].toNat:Int) == 48)=true:=by rw[<-hxa,hlz.2];rfl
      clear hlz hxa hn1 hn2
      by_cases hmx:n<=999999999999999999
      ·have Pm:(n:Int)<=999999999999999999:=by omega
       clear hka;go_wp2_with (go_at_call 58;refine(Pj.o _ bg.o).mono ?_;rintro e w3 ⟨rfl,hd3,hg3⟩);refine bodyPost_ret (results_tmp (t:=2) rfl _ _ _) rfl ?_;rw[aJ.o];exact⟨fun n j hh=>(by cases hh),fun c p hh=>(by cases hh;exact⟨⟨_,rfl⟩,by decide,k,hk,hd3⟩),dK aW.o hg3⟩
      ·have Pm:(999999999999999999:Int)<(n:Int):=by omega
       clear hka;go_wp2_with (go_at_call 58;refine(Pj.o _ bg.o).mono ?_)
       first|rintro e w3 rfl hd3 hg3|rintro e w3 ⟨rfl,hd3,hg3⟩
       have HD3:=ae hd3;have aU:=ae (dK aW.o hg3);clear hd3 hg3;go_wp2_with (go_at_call 58;refine(CFN.o _ HD3.o).mono ?_)
       first|rintro e w' rfl rfl|rintro e w' ⟨rfl,rfl⟩
       go_wp2;refine bodyPost_ret (results_tmp (t:=2) rfl _ _ _) rfl ?_;rw[aJ.o];exact⟨fun n j hh=>(by cases hh),fun c p hh=>(by cases hh;exact⟨⟨_,rfl⟩,by decide,k,hk,HD3.o⟩),aU.o⟩
     ·have hno:¬(k=a\/(1<k-a/\nx s.data.toList a=48)):=by rintro(h|h);exact hka h;exact hlz h
      have hgd:((1:Int)<(k:Int)-(a:Int))->((s[a].toNat:Int) == 48)=false:=fun hh=>by
       rw[beq_eq_false_iff_ne,<-hxa];intro e;exact hlz ⟨by omega,e⟩
      by_cases h18:18<k-a
      ·have aJ:Hd (G=.error (3,p)):=by
        have:=vZ.o;rw[if_neg hno,if_pos h18]at this;exact this.symm
       have hnn:n=1000000000000000000:=by rw[<-JI.o];exact HHI.o k ou.o hak hk h18 (by
        have:¬nx s.data.toList a=48:=fun e=>hlz ⟨by omega,e⟩
        omega)
       have Pm:(999999999999999999:Int)<(n:Int):=by omega
       have h1k:(1:Int)<(k:Int)-(a:Int):=by omega
       have hb48:=hgd h1k;clear hka hlz hno hgd h18 hnn hxa hn1 hn2;go_wp2_with (go_at_call 58;refine(CF3.o _ bg.o).mono ?_;rintro e w3 ⟨rfl,hd3,hg3⟩);refine bodyPost_ret (results_tmp (t:=2) rfl _ _ _) rfl ?_;rw[aJ.o];exact⟨fun n j hh=>(by cases hh),fun c p hh=>(by cases hh;exact⟨⟨_,rfl⟩,by decide,k,hk,hd3⟩),dK aW.o hg3⟩
      ·obtain⟨hlo1,hlo2⟩:=zI.o k ou.o hak hk (by omega);have hnd:=hlo1.symm.trans JI.o;have aJ:Hd (G=.ok (sg n,k)):=by
        have:=vZ.o;rw[if_neg hno,if_neg h18,hnd]at this;exact this.symm
       have Pm:(n:Int)<=999999999999999999:=by omega
       by_cases h1k:(1:Int)<(k:Int)-(a:Int)
       ·have hb48:=hgd h1k;clear hka hlz hno hgd h18 hlo1 hlo2 hnd hxa hn1 hn2;go_wp2;refine bodyPost_ret (results_tmp (t:=2) rfl _ _ _) rfl ?_;rw[aJ.o];exact⟨fun z j hh=>(by cases hh;exact⟨dm (lg.o n),hk,bg.o⟩),fun c p hh=>(by cases hh),aW.o⟩
       ·have h1l:(k:Int)-(a:Int)<=1:=by omega
        clear hka hlz hno hgd h18 hlo1 hlo2 hnd hxa hn1 hn2;go_wp2;refine bodyPost_ret (results_tmp (t:=2) rfl _ _ _) rfl ?_;rw[aJ.o];exact⟨fun z j hh=>(by cases hh;exact⟨dm (lg.o n),hk,bg.o⟩),fun c p hh=>(by cases hh),aW.o⟩))
end Go.Proofs.YtbcfhgpfgdbjgaaGreatDoor
