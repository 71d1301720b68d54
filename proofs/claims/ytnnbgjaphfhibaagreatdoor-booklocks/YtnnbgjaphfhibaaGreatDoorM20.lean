import Derived.Test.YtnnbgjaphfhibaaGreatDoorM11
import Derived.Test.YtnnbgjaphfhibaaGreatDoorM19
import Derived.Test.YtnnbgjaphfhibaaGreatDoorM14
set_option linter.unusedVariables false
set_option linter.unusedSimpArgs false
set_option maxRecDepth 100000
set_option maxHeartbeats 6400000
open Go.Proofs.Tryz
namespace Go.Proofs.YtnnbgjaphfhibaaGreatDoor
open Go.RowKit Go.Joins
theorem ab8(R:Nat)(s:ByteArray)(L O:Value)(now de i:Nat)(w:World)(h:Dd w R s L O now de i 0 0)(hi:i<s.size)(hs:s.size<=1048576)(hx:nx s.data.toList i=43\/nx s.data.toList i=45\/au (nx s.data.toList i)=true) :
  Calls prog 123 #[.pointer (some ⟨R,0,none⟩)] w (Z7 R s L O now de (jf s.data.toList i) w):=by
 rw[Z8];have hl:s.data.toList.length=s.size:=by simp
 have CI:Hd (∀c w,0<=c->Ds w R s L O now de (.ok i)->Calls prog 52 #[.pointer (some ⟨R,0,none⟩),.int .u8 c] w fun e w'=>e=.returned (.bool (decide (nx s.data.toList i=c)))/\w.grownBy w' none):=fun c w h0 h1=>rX R s L O now de (.ok i) c h0 w h1 hs
 obtain⟨m,hm⟩:=zN (decide (nx s.data.toList i=45));obtain⟨m2,hm2⟩:=zN (decide (nx s.data.toList i=43));obtain⟨a,ha⟩:=zN ((if au (nx s.data.toList i)=true then i else i+1));have nR:Hd ((m=true/\i+1=a)\/(m=false/\m2=true/\i+1=a)\/(m=false/\m2=false/\i=a)):=by
  by_cases h45:nx s.data.toList i=45
  ·exact Or.inl ⟨by rw[<-hm];exact decide_eq_true h45,by rw[<-ha,if_neg (by rw[h45];decide)]⟩
  ·by_cases h43:nx s.data.toList i=43
   ·exact Or.inr (Or.inl ⟨by rw[<-hm];exact decide_eq_false h45,by rw[<-hm2];exact decide_eq_true h43,by rw[<-ha,if_neg (by rw[h43];decide)]⟩)
   ·exact Or.inr (Or.inr ⟨by rw[<-hm];exact decide_eq_false h45,by rw[<-hm2];exact decide_eq_false h43,by rw[<-ha,if_pos (by rcases hx with h|h|h;exact(h43 h).elim;exact(h45 h).elim;exact h)]⟩)
 have ab9:Hd (∀w,Ds w R s L O now de (.ok i)->Calls prog 52 #[.pointer (some ⟨R,0,none⟩),.int .u8 45] w fun e w'=>e=.returned (.bool m)/\w.grownBy w' none):=fun w h=>hm ▸ CI.o 45 w (by decide) h
 have UG:Hd (∀w,Ds w R s L O now de (.ok i)->Calls prog 52 #[.pointer (some ⟨R,0,none⟩),.int .u8 43] w fun e w'=>e=.returned (.bool m2)/\w.grownBy w' none):=fun w h=>hm2 ▸ CI.o 43 w (by decide) h
 have HD:Hd (Dd w R s L O now de i 0 0):=h;have hai:a<=s.size:=by have:=nR.o;omega
 have hai1:a<=i+1:=by have:=nR.o;omega
 obtain⟨p,hp⟩:=zN (i);rw[ha,hm];obtain⟨sg,hsg⟩:∃sg:Nat->Int,(fun n:Nat=>if m=true then -(n:Int) else(n:Int))=sg:=⟨_,rfl⟩;have y8:Hd (∀n:Nat,(if m=true then -(n:Int) else(n:Int))=sg n):=fun n=>by rw[<-hsg]
 obtain⟨G,hG⟩:=zN (KJ s.data.toList i a m);rw[hG];have jl:Hd ((if toR au s.data.toList a=a\/(1<toR au s.data.toList a-a/\nx s.data.toList a=48) then .error (2,a)
  else if 18<toR au s.data.toList a-a then .error (3,p)
  else .ok (sg (iq (ag s.data.toList a (toR au s.data.toList a-a)) 0),toR au s.data.toList a))=G):=by rw[<-hsg,<-hp];exact hG
 obtain⟨c0,c1,-,-,-,c5,-,-,df⟩:=h.cells;have df1:=df 1;rw[hp]at c1;have HST:Hd (∀k (hk:k<s.size),au (s[k].toNat:Int)=true->toR au s.data.toList k=toR au s.data.toList (k+1)):=fun k hk hb=>qH au _ k (by omega) (by rw[byte_at s k hk];exact hb)
 have jO:Hd (∀k (hk:k<s.size),au (s[k].toNat:Int)=false->toR au s.data.toList k=k):=fun k hk hb=>lX au _ k (by rw[byte_at s k hk];exact hb)
 have qM:Hd (∀k,s.size<=k->toR au s.data.toList k=k):=fun k hk=>Ba au _ k (by omega)
 have ku:Hd (∀k n,iW (ag s.data.toList a (k-a)) 0=n->a<=k->(hk:k<s.size)->iW (ag s.data.toList a (k+1-a)) 0=if n<=99999999999999999 then 10*n+(s[k].toNat - 48) else 1000000000000000000):=fun k n h1 h2 h3=>aab s.data.toList a k n h1 h2 (by omega)
 have fC:Hd (∀k,(∀c∈ag s.data.toList a (k-a),c.toNat<=57)->a<=k->(hk:k<s.size)->s[k].toNat<=57->∀c∈ag s.data.toList a (k+1-a),c.toNat<=57):=fun k h1 h2 h3 h4=>Z9 s.data.toList a k h1 h2 (by omega) h4
 have Dz:Hd (∀k,(∀c∈ag s.data.toList a (k-a),c.toNat<=57)->a<=k->k<=s.size->k-a<=18->iW (ag s.data.toList a (k-a)) 0=iq (ag s.data.toList a (k-a)) 0/\iq (ag s.data.toList a (k-a)) 0<=999999999999999999):=fun k h1 h2 h3 h4=>Rx s.data.toList a k h1 h2 (by omega) h4
 have HHI:Hd (∀k,(∀c∈ag s.data.toList a (k-a),c.toNat<=57)->a<=k->k<=s.size->18<k-a->49<=nx s.data.toList a->iW (ag s.data.toList a (k-a)) 0=1000000000000000000):=fun k h1 h2 h3 h4 h5=>aac s.data.toList a k h1 h2 (by omega) h4 h5
 have iE:Hd (¬toR au s.data.toList a=a->48<=nx s.data.toList a/\nx s.data.toList a<=57):=aad s.data.toList a;have HXB:Hd (∀k (hk:k<s.size),nx s.data.toList k=(s[k].toNat:Int)):=byte_at s;have UH:Hd (Ds w R s L O now de (.ok i)):=⟨by omega,h⟩;clear h hG ha hm hm2 df hx hsg hp;go_enter func123,ntmps123;go_wp2_with (go_at_call 52;refine(ab9.o _ UH.o).mono ?_)
 first|rintro e w1 rfl hg1|rintro e w1 ⟨rfl,hg1⟩
 have ay:Hd (w.grownBy w1 none):=hg1;clear hg1;have UI:Hd (Ds w1 R s L O now de (.ok i)):=UH.o.grow ay.o
 rcases nR.o with q1|q2|q3
 all_goals (
  clear nR
  first
   | (obtain⟨rfl,ha⟩:=q1
      have HG2:Hd (w.grownBy w1 none):=ay.o;obtain⟨w2,hw2⟩:=zN (w1);rw[hw2]at HG2 ⊢;clear hw2)
   | (obtain⟨rfl,rfl,ha⟩:=q2
      go_wp2_with (go_at_call 52;refine(UG.o _ UI.o).mono ?_)
      first|rintro e w2 rfl hg2|rintro e w2 ⟨rfl,hg2⟩
      have HG2:Hd (w.grownBy w2 none):=ah ay.o hg2;clear hg2)
   | (obtain⟨rfl,rfl,ha⟩:=q3
      go_wp2_with (go_at_call 52;refine(UG.o _ UI.o).mono ?_)
      first|rintro e w2 rfl hg2|rintro e w2 ⟨rfl,hg2⟩
      have HG2:Hd (w.grownBy w2 none):=ah ay.o hg2;clear hg2)
  obtain⟨e0,e1,-,-,-,e5,-,-,ef⟩:=(HD.o.grow HG2.o).cells;have ef1:=ef 1;clear ef;go_wp2
  first
   | (have ha':a=i:=ha.symm
      subst ha';have aF:Hd (Dd w2 R s L O now de a 0 0):=HD.o.grow HG2.o;have dO:Hd (w.grownBy w2 (some R)):=aG (ax w (some R)) HG2.o;obtain⟨wA,hwA⟩:∃W,w2=W:=⟨_,rfl⟩;rw[hwA]at aF dO ⊢;clear hwA)
   | (have aF:Hd (Dd (w2.setCell ⟨R,1,none⟩ (.int .i64 ((i:Int)+1))) R s L O now de (i+1) 0 0):=(HD.o.grow HG2.o).setI (i+1)
      have dO:Hd (w.grownBy (w2.setCell ⟨R,1,none⟩ (.int .i64 ((i:Int)+1))) (some R)):=aQ (aG (ax w (some R)) HG2.o) 1 _;obtain⟨wA,hwA⟩:∃W,w2.setCell ⟨R,1,none⟩ (.int .i64 ((i:Int)+1))=W:=⟨_,rfl⟩;rw[hwA]at aF dO ⊢;rw[ha]at aF;have hcast:((i:Int)+1)=(a:Int):=by omega
      simp only[hcast];clear hwA hcast)
  try clear ha
  go_loopw [6] (fun vn wr=>∃k n:Nat,vn=.int .i64 (n:Nat)/\Dd wr R s L O now de k 0 0/\a<=k/\k<=s.size/\toR au s.data.toList k=toR au s.data.toList a/\iW (ag s.data.toList a (k-a)) 0=n/\n<=1000000000000000000/\(∀c∈ag s.data.toList a (k-a),c.toNat<=57)/\w.grownBy wr (some R)) (fun _ wr=>s.size-dI wr R)
  case atStart=>exact⟨a,0,rfl,aF.o,by omega,hai,rfl,by rw[Nat.sub_self];rfl,by omega,fun c hc=>(by rw[Nat.sub_self]at hc;unfold ag at hc;rw[List.take_zero]at hc;cases hc),dO.o⟩
  case round =>
   obtain⟨k,n,rfl,hd,hak,hk,hto,UJ,afJ,hall,hg⟩:=hrel;have HDK:Hd (Dd _ R s L O now de k 0 0):=hd;have jY:Hd (w.grownBy _ (some R)):=hg;have gK:Hd (dI _ R=k):=vP hd;have mW:Hd (toR au s.data.toList k=toR au s.data.toList a):=hto;have Ib:Hd (iW (ag s.data.toList a (k-a)) 0=n):=UJ;have nH:Hd (∀c∈ag s.data.toList a (k-a),c.toNat<=57):=hall;obtain⟨c0,c1,-,-,-,c5,-,-,df⟩:=hd.cells;have df1:=df 1;clear hd hg hto UJ hall df;have hst:(∃hlt:k<s.size,au (s[k].toNat:Int)=true)\/(toR au s.data.toList a=k/\((∃hlt:k<s.size,au (s[k].toNat:Int)=false)\/¬k<s.size)):=by
    by_cases hlt:k<s.size
    ·cases hb:au (s[k].toNat:Int) with
     | true=>exact Or.inl ⟨hlt,hb⟩
     | false=>exact Or.inr ⟨mW.o.symm.trans (jO.o k hlt hb),Or.inl ⟨hlt,hb⟩⟩
    ·exact Or.inr ⟨mW.o.symm.trans (qM.o k (by omega)),Or.inr hlt⟩
   rcases hst with⟨hlt,hb⟩|⟨hJ,e1|e2⟩
   ·have hlt':decide ((k:Int)<(s.size:Int))=true:=by simp;omega
    have CB:Hd (∀w,Calls prog 122 #[.int .u8 (s[k].toNat:Int)] w fun e w'=>e=.returned (.bool true)/\w'=w):=fun w=>by have:=yX s[k] w;rw[hb]at this;exact this
    have HN:Hd (toR au s.data.toList (k+1)=toR au s.data.toList a):=(HST.o k hlt hb).symm.trans mW.o;obtain⟨h48,h57⟩:48<=s[k].toNat/\s[k].toNat<=57:=by
     unfold au at hb;have:=of_decide_eq_true hb;omega
    have UK:Hd (∀c∈ag s.data.toList a (k+1-a),c.toNat<=57):=fC.o k nH.o hak hlt h57;have H4:Hd (iW (ag s.data.toList a (k+1-a)) 0=if n<=99999999999999999 then 10*n+(s[k].toNat - 48) else 1000000000000000000):=ku.o k n Ib.o hak hlt;clear hb;go_wp2;go_quiet (first|(go_at_call 122;exact Calls.quiet_of_same (CB.o _)));have aN:Hd (Dd (wr.drewN nq) R s L O now de k 0 0):=HDK.o;have aH:Hd (w.grownBy (wr.drewN nq) (some R)):=aj jY.o nq;obtain⟨wB,hwB⟩:∃W,wr.drewN nq=W:=⟨_,rfl⟩;rw[hwB]at aN aH ⊢;obtain⟨d0,d1,-,-,-,d5,-,-,dg⟩:=aN.o.cells;have dg1:=dg 1;have UL:Hd (Dd (wB.setCell ⟨R,1,none⟩ (.int .i64 ((k:Int)+1))) R s L O now de (k+1) 0 0):=aN.o.setI (k+1);clear hwB dg
    by_cases hsm:n<=99999999999999999
    ·have aca:(n:Int)<=99999999999999999:=by omega
     have Ny:Hd (iW (ag s.data.toList a (k+1-a)) 0=10*n+(s[k].toNat - 48)):=by
      have:=H4.o;rw[if_pos hsm]at this;exact this
     have UM:Hd (10*(n:Int)+(s[k].toNat:Int)-48=((10*n+(s[k].toNat - 48):Nat):Int)):=by show _=_;omega
     go_wp2;go_quiet (fail);have dJ:Hd (Dd (wB.drewN nq) R s L O now de k 0 0):=aN.o;have bJ:Hd (w.grownBy (wB.drewN nq) (some R)):=aj aH.o nq;obtain⟨wC,fV⟩:∃W,wB.drewN nq=W:=⟨_,rfl⟩;rw[fV]at dJ bJ ⊢;obtain⟨f0,f1,-,-,-,f5,-,-,fg⟩:=dJ.o.cells;have fg1:=fg 1;have UN:Hd (Dd (wC.setCell ⟨R,1,none⟩ (.int .i64 ((k:Int)+1))) R s L O now de (k+1) 0 0):=dJ.o.setI (k+1);clear fV fg;go_wp2;refine⟨⟨k+1,10*n+(s[k].toNat - 48),by first|rfl|rw[UM.o]|(congr 1;have:=UM.o;omega),UN.o,by omega,by omega,HN.o,Ny.o,by omega,UK.o,aQ bJ.o 1 _⟩,?_⟩;rw[gK.o,vP UN.o];omega
    ·have aca:¬(n:Int)<=99999999999999999:=by omega
     have afK:(99999999999999999:Int)<(n:Int):=by omega
     have Ny:Hd (iW (ag s.data.toList a (k+1-a)) 0=1000000000000000000):=by
      have:=H4.o;rw[if_neg hsm]at this;exact this
     go_wp2;refine⟨⟨k+1,1000000000000000000,rfl,UL.o,by omega,by omega,HN.o,Ny.o,by omega,UK.o,aQ aH.o 1 _⟩,?_⟩;rw[gK.o,vP UL.o];omega
   all_goals (
    have HJ:Hd (toR au s.data.toList a=k):=hJ;clear hJ
    first
     | (obtain⟨hlt,hb⟩:=e1
        have hlt':decide ((k:Int)<(s.size:Int))=true:=by simp;omega
        have CB:Hd (∀w,Calls prog 122 #[.int .u8 (s[k].toNat:Int)] w fun e w'=>e=.returned (.bool false)/\w'=w):=fun w=>by have:=yX s[k] w;rw[hb]at this;exact this
        clear hb;go_wp2;go_quiet (first|(go_at_call 122;exact Calls.quiet_of_same (CB.o _))))
     | (have hge:decide ((k:Int)<(s.size:Int))=false:=by have:=e2;simp;omega
        go_wp2;go_quiet (fail))
    have aN:Hd (Dd (wr.drewN nq) R s L O now de k 0 0):=HDK.o;have aH:Hd (w.grownBy (wr.drewN nq) (some R)):=aj jY.o nq;obtain⟨wB,hwB⟩:∃W,wr.drewN nq=W:=⟨_,rfl⟩;rw[hwB]at aN aH ⊢;obtain⟨d0,d1,-,-,-,d5,-,-,dg⟩:=aN.o.cells;clear hwB dg;have DN:=jl.o;rw[HJ.o]at DN;have uo:Hd (_=G):=DN;have HNJ:Hd (¬k=a->48<=nx s.data.toList a/\nx s.data.toList a<=57):=fun hh=>iE.o (by rw[HJ.o];exact hh)
    have hsub:IntKind.i64.wrap ((k:Int)-(a:Int))=(k:Int)-(a:Int):=by rw[IntKind.wrap_i64];omega
    clear DN;have Nz:Hd (∀wx,Dd wx R s L O now de k 0 0->Calls prog 82 #[.pointer (some ⟨R,0,none⟩),.int .i64 2,.int .i64 (a:Nat)] wx fun en w'=>en=.returned (.tuple #[])/\Dd w' R s L O now de k 2 a/\wx.grownBy w' (some R)):=fun wx hg=>pJ R s L O now de k 2 a wx hg
    have CF3:Hd (∀wx,Dd wx R s L O now de k 0 0->Calls prog 82 #[.pointer (some ⟨R,0,none⟩),.int .i64 3,.int .i64 (p:Nat)] wx fun en w'=>en=.returned (.tuple #[])/\Dd w' R s L O now de k 3 p/\wx.grownBy w' (some R)):=fun wx hg=>pJ R s L O now de k 3 p wx hg
    have CFN:Hd (∀wx,Dd wx R s L O now de k 2 a->Calls prog 82 #[.pointer (some ⟨R,0,none⟩),.int .i64 3,.int .i64 (p:Nat)] wx fun en w'=>en=.returned (.tuple #[])/\w'=wx):=fun wx hg=>J6 R s L O now de k 2 a 3 p wx hg (by decide)
    by_cases hka:k=a
    ·have aA:Hd (G=.error (2,a)):=by
      have:=uo.o;rw[if_pos (Or.inl hka)]at this;exact this.symm
     have hn0:n=0:=by
      have:=Ib.o;rw[hka,Nat.sub_self]at this;unfold ag at this;rw[List.take_zero]at this;exact this.symm
     have hbk:((k:Int) == (a:Int))=true:=by simp[hka]
     have hmx:(n:Int)<=999999999999999999:=by omega
     clear hka hn0;go_wp2_with (go_at_call 82;refine(Nz.o _ aN.o).mono ?_;rintro e w3 ⟨rfl,hd3,hg3⟩);refine bodyPost_ret (results_tmp (t:=2) rfl _ _ _) rfl ?_;rw[aA.o];exact⟨fun n j hh=>(by cases hh),fun c p hh=>(by cases hh;exact⟨⟨_,rfl⟩,by decide,k,hk,hd3⟩),dH aH.o hg3⟩
    ·have hbk:((k:Int) == (a:Int))=false:=by rw[beq_eq_false_iff_ne];omega
     have hal:a<s.size:=by omega
     have hxa:=HXB.o a hal;obtain⟨hn1,hn2⟩:=HNJ.o hka
     by_cases hlz:1<k-a/\nx s.data.toList a=48
     ·have aA:Hd (G=.error (2,a)):=by
       have:=uo.o;rw[if_pos (Or.inr hlz)]at this;exact this.symm
      have h1k:(1:Int)<(k:Int)-(a:Int):=by omega
      have hb48:((s[a].toNat:Int) == 48)=true:=by rw[<-hxa,hlz.2];rfl
      clear hlz hxa hn1 hn2
      by_cases hmx:n<=999999999999999999
      ·have NC:(n:Int)<=999999999999999999:=by omega
       clear hka;go_wp2_with (go_at_call 82;refine(Nz.o _ aN.o).mono ?_;rintro e w3 ⟨rfl,hd3,hg3⟩);refine bodyPost_ret (results_tmp (t:=2) rfl _ _ _) rfl ?_;rw[aA.o];exact⟨fun n j hh=>(by cases hh),fun c p hh=>(by cases hh;exact⟨⟨_,rfl⟩,by decide,k,hk,hd3⟩),dH aH.o hg3⟩
      ·have NC:(999999999999999999:Int)<(n:Int):=by omega
       clear hka;go_wp2_with (go_at_call 82;refine(Nz.o _ aN.o).mono ?_)
       first|rintro e w3 rfl hd3 hg3|rintro e w3 ⟨rfl,hd3,hg3⟩
       have HD3:Hd (Dd w3 R s L O now de k 2 a):=hd3;have aK:Hd (w.grownBy w3 (some R)):=dH aH.o hg3;clear hd3 hg3;go_wp2_with (go_at_call 82;refine(CFN.o _ HD3.o).mono ?_)
       first|rintro e w' rfl rfl|rintro e w' ⟨rfl,rfl⟩
       go_wp2;refine bodyPost_ret (results_tmp (t:=2) rfl _ _ _) rfl ?_;rw[aA.o];exact⟨fun n j hh=>(by cases hh),fun c p hh=>(by cases hh;exact⟨⟨_,rfl⟩,by decide,k,hk,HD3.o⟩),aK.o⟩
     ·have hno:¬(k=a\/(1<k-a/\nx s.data.toList a=48)):=by rintro(h|h);exact hka h;exact hlz h
      have hgd:((1:Int)<(k:Int)-(a:Int))->((s[a].toNat:Int) == 48)=false:=fun hh=>by
       rw[beq_eq_false_iff_ne,<-hxa];intro e;exact hlz ⟨by omega,e⟩
      by_cases h18:18<k-a
      ·have aA:Hd (G=.error (3,p)):=by
        have:=uo.o;rw[if_neg hno,if_pos h18]at this;exact this.symm
       have hnn:n=1000000000000000000:=by rw[<-Ib.o];exact HHI.o k nH.o hak hk h18 (by
        have:¬nx s.data.toList a=48:=fun e=>hlz ⟨by omega,e⟩
        omega)
       have NC:(999999999999999999:Int)<(n:Int):=by omega
       have h1k:(1:Int)<(k:Int)-(a:Int):=by omega
       have hb48:=hgd h1k;clear hka hlz hno hgd h18 hnn hxa hn1 hn2;go_wp2_with (go_at_call 82;refine(CF3.o _ aN.o).mono ?_;rintro e w3 ⟨rfl,hd3,hg3⟩);refine bodyPost_ret (results_tmp (t:=2) rfl _ _ _) rfl ?_;rw[aA.o];exact⟨fun n j hh=>(by cases hh),fun c p hh=>(by cases hh;exact⟨⟨_,rfl⟩,by decide,k,hk,hd3⟩),dH aH.o hg3⟩
      ·obtain⟨hlo1,hlo2⟩:=Dz.o k nH.o hak hk (by omega);have hnd:iq (ag s.data.toList a (k-a)) 0=n:=hlo1.symm.trans Ib.o;have aA:Hd (G=.ok (sg n,k)):=by
        have:=uo.o;rw[if_neg hno,if_neg h18,hnd]at this;exact this.symm
       have NC:(n:Int)<=999999999999999999:=by omega
       by_cases h1k:(1:Int)<(k:Int)-(a:Int)
       ·have hb48:=hgd h1k;clear hka hlz hno hgd h18 hlo1 hlo2 hnd hxa hn1 hn2;go_wp2;refine bodyPost_ret (results_tmp (t:=2) rfl _ _ _) rfl ?_;rw[aA.o];exact⟨fun z j hh=>(by cases hh;exact⟨dD (y8.o n),hk,aN.o⟩),fun c p hh=>(by cases hh),aH.o⟩
       ·have h1l:(k:Int)-(a:Int)<=1:=by omega
        clear hka hlz hno hgd h18 hlo1 hlo2 hnd hxa hn1 hn2;go_wp2;refine bodyPost_ret (results_tmp (t:=2) rfl _ _ _) rfl ?_;rw[aA.o];exact⟨fun z j hh=>(by cases hh;exact⟨dD (y8.o n),hk,aN.o⟩),fun c p hh=>(by cases hh),aH.o⟩))
open Go.RowKit Go.Maps Go.WideMaps Go.Joins
def Fq(w:World)(B P R:Nat)(s:ByteArray)(now de:Nat)(e:Int × Nat):Prop:=∃L O,Ds w R s L O now de (.error e)/\B<=R/\¬P=R/\P<w.heap.size
def Dq(w:World)(B P R:Nat)(s:ByteArray)(now de:Nat)(q:Rs Nat)(ns:List Tn)(own:List Nat):Prop:=match q with | .ok i=>Dt w B P R s now de (.ok i) ns own | .error e=>Fq w B P R s now de e
section
variable {w w':World} {B P R:Nat} {s:ByteArray} {now de:Nat} {q q':Rs Nat} {ns:List Tn} {own:List Nat}
theorem Dt.fq{e:Int × Nat}(h:Dt w B P R s now de (.error e) ns own):Fq w B P R s now de e:=by
 obtain⟨h1,h2,N,c,O,oc,xs,ks,h3,h4,h5,h6⟩:=h;exact⟨_,_,h6,h1,h2,h5.hP⟩
theorem Dt.dq(h:Dt w B P R s now de q ns own):Dq w B P R s now de q ns own:=by
 match q,h with
 | .ok i,h=>exact h
 | .error e,h=>exact h.fq
theorem Dt.base(h:Dt w B P R s now de q ns own):B<=w.heap.size/\P<w.heap.size/\R<w.heap.size:=by
 obtain⟨h1,h2,N,c,O,oc,xs,ks,h3,h4,h5,h6⟩:=h;obtain⟨i,er,p,hd⟩:=h6.dd;exact⟨Nat.le_of_lt (Nat.lt_of_le_of_lt h1 (aB hd)),h5.hP,aB hd⟩
theorem ry{L O:Value}(hd:Ds w R s L O now de q)(hB:B<=R)(hP:¬P=R)(hPs:P<w.heap.size)(hg:w.grownBy w' (some R)):DFr B P w w':=by
 obtain⟨i,er,p,hdd⟩:=hd.dd;exact DFr.row hg (Nat.le_of_lt (Nat.lt_of_le_of_lt hB (aB hdd))) hPs hB hP hdd (Or.inl rfl)
theorem Dt.keep(h:Dt w B P R s now de q ns own)(hs:∀L O,Ds w R s L O now de q->Ds w' R s L O now de q')(hg:w.grownBy w' (some R)):Dt w' B P R s now de q' ns own/\DFr B P w w':=by
 obtain⟨h1,h2,N,c,O,oc,xs,ks,h3,h4,h5,h6⟩:=h;obtain⟨i,er,p,hdd⟩:=h6.dd;exact⟨⟨h1,h2,N,c,O,oc,xs,ks,h3,h4,h5.keepR hdd hg,hs _ _ h6⟩,ry h6 h1 h2 h5.hP hg⟩
end
theorem Ic{B P R:Nat}{s:ByteArray}{now de:Nat}{ns:List Tn}{own:List Nat}{fn:Nat}{args:Array Value}(F:Rs Nat->Rs Nat)(hF:∀e,F (.error e)=.error e)(C:∀L O w q,Ds w R s L O now de q->Calls prog fn args w fun e w'=>e=.returned (.tuple #[])/\Ds w' R s L O now de (F q)/\w.grownBy w' (some R))(q:Rs Nat)(w:World)(h:Dq w B P R s now de q ns own) :
  Calls prog fn args w fun e w'=>e=.returned (.tuple #[])/\Dq w' B P R s now de (F q) ns own/\DFr B P w w':=by
 match q,h with
 | .error e,⟨L,O,h1,h2,h3,h4⟩ =>
  refine(C L O w _ h1).mono ?_;rintro e' w' ⟨rfl,a,b⟩;rw[hF]at a ⊢;exact⟨rfl,⟨L,O,a,h2,h3,Nat.lt_of_lt_of_le h4 b.size⟩,ry h1 h2 h3 h4 b⟩
 | .ok i,h =>
  obtain⟨h1,h2,N,c,O,oc,xs,ks,h3,h4,h5,h6⟩:=h;refine(C _ _ w _ h6).mono ?_;rintro e' w' ⟨rfl,a,b⟩;obtain⟨ii,er,p,hdd⟩:=h6.dd;exact⟨rfl,Dt.dq ⟨h1,h2,N,c,O,oc,xs,ks,h3,h4,h5.keepR hdd b,a⟩,ry h6 h1 h2 h5.hP b⟩
section
variable (B P R:Nat) (s:ByteArray) (now de:Nat) (ns:List Tn) (own:List Nat) (q:Rs Nat) (w:World) (h:Dq w B P R s now de q ns own) (hs:s.size<=100000)
include h hs
theorem ND(c:Int)(hc:0<=c):Calls prog 56 #[.pointer (some ⟨R,0,none⟩),.int .u8 c] w fun e w'=>e=.returned (.tuple #[])/\Dq w' B P R s now de (q.bind fun i=>must s.data.toList i c) ns own/\DFr B P w w' :=
 Ic (fun q=>q.bind fun i=>must s.data.toList i c) (fun _=>rfl) (fun L O w q h=>J7 R s L O now de q c hc w h (by omega)) q w h
theorem UO:Calls prog 51 #[.pointer (some ⟨R,0,none⟩)] w fun e w'=>e=.returned (.tuple #[])/\Dq w' B P R s now de (q.bind fun i=>.ok (bl s.data.toList i)) ns own/\DFr B P w w' :=
 Ic (fun q=>q.bind fun i=>.ok (bl s.data.toList i)) (fun _=>rfl) (fun L O w q h=>QI R s L O now de q w h (by omega)) q w h
theorem acb:Calls prog 55 #[.pointer (some ⟨R,0,none⟩)] w fun e w'=>e=.returned (.tuple #[])/\Dq w' B P R s now de (q.bind (gY s.data.toList)) ns own/\DFr B P w w' :=
 Ic (fun q=>q.bind (gY s.data.toList)) (fun _=>rfl) (fun L O w q h=>QS R s L O now de q w h (by omega)) q w h
theorem acd:Calls prog 162 #[.pointer (some ⟨R,0,none⟩)] w fun e w'=>e=.returned (.tuple #[])/\Dq w' B P R s now de (q.bind (gap s.data.toList (s.data.toList.length+1))) ns own/\DFr B P w w' :=
 Ic (fun q=>q.bind (gap s.data.toList (s.data.toList.length+1))) (fun _=>rfl) (fun L O w q h=>YM R s L O now de q w h (by omega)) q w h
theorem UQ(c:Int)(hc:0<=c):Calls prog 52 #[.pointer (some ⟨R,0,none⟩),.int .u8 c] w fun e w'=>e=.returned (.bool (eU s.data.toList q c))/\Dq w' B P R s now de q ns own/\DFr B P w w':=by
 match q,h with
 | .error e,⟨L,O,h1,h2,h3,h4⟩ =>
  refine(rX R s L O now de _ c hc w h1 (by omega)).mono ?_;rintro e' w' ⟨rfl,b⟩;obtain⟨ii,er,p,hdd⟩:=h1.dd;exact⟨rfl,⟨L,O,h1.grow b,h2,h3,Nat.lt_of_lt_of_le h4 b.size⟩,DFr.gb b (Nat.le_of_lt (Nat.lt_of_le_of_lt h2 (aB hdd))) h4⟩
 | .ok i,h =>
  obtain⟨h1,h2,N,c',O,oc,xs,ks,h3,h4,h5,h6⟩:=h;refine(rX R s _ _ now de _ c hc w h6 (by omega)).mono ?_;rintro e' w' ⟨rfl,b⟩;obtain⟨ii,er,p,hdd⟩:=h6.dd;exact⟨rfl,⟨h1,h2,N,c',O,oc,xs,ks,h3,h4,h5.gb b,h6.grow b⟩,DFr.gb b (Nat.le_of_lt (Nat.lt_of_le_of_lt h1 (aB hdd))) h5.hP⟩
end
theorem yA(B P R:Nat)(s:ByteArray)(now de:Nat)(ns:List Tn)(own:List Nat)(i:Nat)(w:World)(h:Dt w B P R s now de (.ok i) ns own)(c:Int)(hc:c≠0)(a:Nat) :
  Calls prog 82 #[.pointer (some ⟨R,0,none⟩),.int .i64 c,.int .i64 (a:Nat)] w fun e w'=>e=.returned (.tuple #[])/\Dt w' B P R s now de (.error (c,a)) ns own/\DFr B P w w':=by
 have h0:=h;obtain⟨h1,h2,N,c',O,oc,xs,ks,h3,h4,h5,h6⟩:=h;refine(pJ R s _ _ now de i c a w h6.2).mono ?_;rintro e' w' ⟨rfl,a1,b⟩;exact⟨rfl,⟨h1,h2,N,c',O,oc,xs,ks,h3,h4,h5.keepR h6.2 b,⟨hc,i,h6.1,a1⟩⟩,ry h6 h1 h2 h5.hP b⟩
def qc(B P R:Nat)(s:ByteArray)(now de:Nat)(own:List Nat)(g:Rs (Nat × List Tn))(w:World)(e:Ending)(w':World):Prop:=e=.returned (.tuple #[])/\(∀j ns',g=.ok (j,ns')->Dt w' B P R s now de (.ok j) ns' own)/\(∀c,g=.error c->Fq w' B P R s now de c)/\DFr B P w w'
def NE(f:Nat):Prop:=∀(B P R:Nat) (s:ByteArray) (own:List Nat) (now i up:Nat) (k:List UInt8) (p d:Nat) (ns:List Tn) (w:World),Dt w B P R s now d (.ok i) ns own->s.size<=100000->WF ns own->WT ns->up<ns.length->¬ak ns up=2->d<=8->ns.length+(s.size-i)<=700000->2*(s.size-i)+1<=f →
 Calls prog 83 #[.pointer (some ⟨R,0,none⟩),.int .i64 (up:Nat),.string ⟨k.toArray⟩,.int .i64 (p:Nat)] w (qc B P R s now d own (val s.data.toList f i up k p d ns) w)
def DR(f:Nat):Prop:=∀(B P R:Nat) (s:ByteArray) (own:List Nat) (now i up:Nat) (k:List UInt8) (p d:Nat) (ns:List Tn) (w:World),Dt w B P R s now d (.ok i) ns own->s.size<=100000->nx s.data.toList i=91->WF ns own->WT ns->up<ns.length->¬ak ns up=2->d<=8->ns.length+(s.size-i)<=700000->2*(s.size-i)<=f →
 Calls prog 121 #[.pointer (some ⟨R,0,none⟩),.int .i64 (up:Nat),.string ⟨k.toArray⟩,.int .i64 (p:Nat)] w (qc B P R s now d own (if d=8 then .error (4,i) else lst s.data.toList f (i+1) ns.length (d+1) (addN ns up ⟨1,k,[],0,[],p⟩)) w)
open Go.RowKit Go.Maps Go.WideMaps Go.Joins
def UR(B P R:Nat)(s:ByteArray)(now de:Nat)(ns:List Tn)(own:List Nat)(g:Rs (List UInt8 × Nat))(w:World)(e:Ending)(w':World):Prop:=(∀t j,g=.ok (t,j)->e=.returned (.string ⟨t.toArray⟩)/\Dt w' B P R s now de (.ok j) ns own)/\(∀c,g=.error c->∃t:List UInt8,e=.returned (.string ⟨t.toArray⟩)/\Dt w' B P R s now de (.error c) ns own)/\DFr B P w w'
theorem ace(B P R:Nat)(s:ByteArray)(now de i:Nat)(ns:List Tn)(own:List Nat)(w:World)(h:Dt w B P R s now de (.ok i) ns own)(hx:nx s.data.toList i=34)(hs:s.size<=100000) :
  Calls prog 119 #[.pointer (some ⟨R,0,none⟩)] w (UR B P R s now de ns own (str s.data.toList (s.data.toList.length+1) (i+1) []) w):=by
 have hlt:i<s.size:=by have:=bH (l:=s.data.toList) (i:=i) (by omega);simpa using this
 obtain⟨h1,h2,N,c,O,oc,xs,ks,h3,h4,h5,h6⟩:=h;refine(Rn R s _ _ now de i w h6.2 hlt hx (by omega)).mono ?_;rintro e w' ⟨a1,a2,a3⟩;refine⟨fun t j hg=>?_,fun c hg=>?_,ry h6 h1 h2 h5.hP a3⟩
 ·obtain⟨b1,b2⟩:=a1 t j hg;exact⟨b1,h1,h2,N,_,O,oc,xs,ks,h3,h4,h5.keepR h6.2 a3,b2⟩
 ·obtain⟨⟨t,-,b1⟩,b2⟩:=a2 c.1 c.2 hg;exact⟨t,b1,h1,h2,N,_,O,oc,xs,ks,h3,h4,h5.keepR h6.2 a3,b2⟩
def UT(B P R:Nat)(s:ByteArray)(now de:Nat)(ns:List Tn)(own:List Nat)(g:Rs (Int × Nat))(w:World)(e:Ending)(w':World):Prop:=(∀n j,g=.ok (n,j)->e=.returned (.int .i64 n)/\Dt w' B P R s now de (.ok j) ns own)/\(∀c,g=.error c->∃n:Int,e=.returned (.int .i64 n)/\Dt w' B P R s now de (.error c) ns own)/\DFr B P w w'
theorem acf(B P R:Nat)(s:ByteArray)(now de i:Nat)(ns:List Tn)(own:List Nat)(w:World)(h:Dt w B P R s now de (.ok i) ns own)(hi:i<s.size)(hx:nx s.data.toList i=43\/nx s.data.toList i=45\/au (nx s.data.toList i)=true)(hs:s.size<=100000) :
  Calls prog 123 #[.pointer (some ⟨R,0,none⟩)] w (UT B P R s now de ns own (jf s.data.toList i) w):=by
 obtain⟨h1,h2,N,c,O,oc,xs,ks,h3,h4,h5,h6⟩:=h;refine(ab8 R s _ _ now de i w h6.2 hi (by omega) hx).mono ?_;rintro e w' ⟨a1,a2,a3⟩;refine⟨fun t j hg=>?_,fun c hg=>?_,ry h6 h1 h2 h5.hP a3⟩
 ·obtain⟨b1,b2⟩:=a1 t j hg;exact⟨b1,h1,h2,N,_,O,oc,xs,ks,h3,h4,h5.keepR h6.2 a3,b2⟩
 ·obtain⟨⟨t,b1⟩,b2⟩:=a2 c.1 c.2 hg;exact⟨t,b1,h1,h2,N,_,O,oc,xs,ks,h3,h4,h5.keepR h6.2 a3,b2⟩
theorem Dt.cells{w:World}{B P R:Nat}{s:ByteArray}{now de i:Nat}{ns:List Tn}{own:List Nat}(h:Dt w B P R s now de (.ok i) ns own):w.cell? ⟨R,0,none⟩=some (.string s)/\w.cell? ⟨R,1,none⟩=some (.int .i64 (i:Nat))/\w.cell? ⟨R,5,none⟩=some (.int .i64 0)/\w.cell? ⟨R,7,none⟩=some (.int .i64 (de:Nat))/\w.cell? ⟨R,4,none⟩=some (.int .i64 (now:Nat))/\i<=s.size/\∀k,w.frozen? ⟨R,k,none⟩=false:=by
 obtain⟨h1,h2,N,c,O,oc,xs,ks,h3,h4,h5,h6⟩:=h;obtain⟨c0,c1,c2,c3,c4,c5,c6,c7,cf⟩:=h6.2.cells;exact⟨c0,c1,c5,c7,c4,h6.1,cf⟩
theorem Dt.drew{w:World}{B P R:Nat}{s:ByteArray}{now de:Nat}{q:Rs Nat}{ns:List Tn}{own:List Nat}(h:Dt w B P R s now de q ns own)(n:Nat):Dt (w.drewN n) B P R s now de q ns own/\DFr B P w (w.drewN n):=by
 have hb:=h.base;obtain⟨h1,h2,N,c,O,oc,xs,ks,h3,h4,h5,h6⟩:=h;have g:w.grownBy (w.drewN n) none:=aj (ax w none) n;exact⟨⟨h1,h2,N,c,O,oc,xs,ks,h3,h4,h5.gb g,h6.grow g⟩,DFr.gb g hb.1 hb.2.1⟩
theorem Fq.err{w:World}{B P R:Nat}{s:ByteArray}{now de:Nat}{e:Int × Nat}(h:Fq w B P R s now de e):w.cell? ⟨R,5,none⟩=some (.int .i64 e.1)/\(e.1 == 0)=false:=by
 obtain⟨L,O,⟨h1,j,h2,h3⟩,-⟩:=h;exact⟨h3.cells.2.2.2.2.2.1,by simpa using h1⟩
def sV{α:Type}(F:α->List Tn):Rs (α × Nat)->Rs (Nat × List Tn)
 | .error e=>.error e
 | .ok (t,j)=>.ok (j,F t)
theorem acg(l:List UInt8)(f i up:Nat)(k:List UInt8)(p d:Nat)(ns:List Tn)(h:nx l i=34):val l (f+1) i up k p d ns=sV (fun t=>addN ns up ⟨3,k,t,0,[],p⟩) (str l (l.length+1) (i+1) []):=by
 rw[sN,if_pos h]
 cases str l (l.length+1) (i+1) []<;>rfl
theorem ach(l:List UInt8)(f i up:Nat)(k:List UInt8)(p d:Nat)(ns:List Tn)(h0:¬nx l i=34)(h:nx l i=43\/nx l i=45\/au (nx l i)=true):val l (f+1) i up k p d ns=sV (fun n=>addN ns up ⟨4,k,[],n,[],p⟩) (jf l i):=by
 rw[sN,if_neg h0,if_pos h]
 cases jf l i<;>rfl
theorem aci(l:List UInt8)(f i up:Nat)(k:List UInt8)(p d:Nat)(ns:List Tn)(h:nx l i=116\/nx l i=102):val l (f+1) i up k p d ns=sV (fun n=>addN ns up ⟨5,k,[],n,[],p⟩) (kU l i):=by
 rw[sN,if_neg (by rcases h with h|h<;>rw[h]<;>decide),if_neg (by rcases h with h|h<;>rw[h]<;>decide),if_pos h]
 cases kU l i<;>rfl
theorem Dt.err{w:World}{B P R:Nat}{s:ByteArray}{now de:Nat}{ns:List Tn}{own:List Nat}{e:Int × Nat}(h:Dt w B P R s now de (.error e) ns own):w.cell? ⟨R,5,none⟩=some (.int .i64 e.1)/\(e.1 == 0)=false:=h.fq.err
open Go.RowKit Go.Maps Go.WideMaps Go.Joins
theorem acj(f:Nat)(B P R:Nat)(s:ByteArray)(own:List Nat)(now i up:Nat)(k:List UInt8)(p d:Nat)(ns:List Tn)(w:World)(h:Dt w B P R s now d (.ok i) ns own)(hs:s.size<=100000)(W:WF ns own)(V:WT ns)(hu:up<ns.length)(hk2:¬ak ns up=2)(hd:d<=8)(hsz:ns.length+(s.size-i)<=700000)(hf:2*(s.size-i)+1<=f+1)(he:s.size<=i) :
  Calls prog 83 #[.pointer (some ⟨R,0,none⟩),.int .i64 (up:Nat),.string ⟨k.toArray⟩,.int .i64 (p:Nat)] w (qc B P R s now d own (val s.data.toList (f+1) i up k p d ns) w):=by
 have hl:s.data.toList.length=s.size:=by simp
 obtain⟨c0,c1,c5,-,-,hi,-⟩:=h.cells;have HD:Hd (Dt w B P R s now d (.ok i) ns own):=h;rw[sN];have hn:nx s.data.toList i=-1:=jG _ _ (by omega);rw[if_neg (by rw[hn];decide),if_neg (by rw[hn];decide),if_neg (by rw[hn];decide),if_neg (by rw[hn];decide)];have hge:decide ((s.size:Int)<=(i:Int))=true:=by simp;omega
 have lJ:(s.size:Int)<=(i:Int):=by omega
 have CF:Hd (∀w,Dt w B P R s now d (.ok i) ns own->Calls prog 82 #[.pointer (some ⟨R,0,none⟩),.int .i64 2,.int .i64 (i:Nat)] w fun e w'=>e=.returned (.tuple #[])/\Dt w' B P R s now d (.error (2,i)) ns own/\DFr B P w w'):=fun w h=>yA B P R s now d ns own i w h 2 (by decide) i
 clear h hn he V W hk2;go_enter func83,ntmps83;go_wp2;go_quiet (fail);have aF:=HD.o.drew nq;have dG:Hd (Dt (w.drewN nq) B P R s now d (.ok i) ns own):=aF.1;have bK:Hd (DFr B P w (w.drewN nq)):=aF.2;obtain⟨wA,hwA⟩:∃W,w.drewN nq=W:=⟨_,rfl⟩;rw[hwA]at dG bK ⊢;obtain⟨d0,d1,d5,-,-,-,-⟩:=dG.o.cells;clear hwA aF c0 c1 c5;go_wp2_with (go_at_call 82;refine(CF.o _ dG.o).mono ?_;rintro e w2 ⟨rfl,hd2,hf2⟩;have e5:=hd2.err.1);refine bodyPost_ret (results_none rfl _ _ _) rfl ?_;exact⟨rfl,fun j ns' hh=>(by cases hh),fun c hh=>(by cases hh;exact hd2.fq),bK.o.two hf2⟩
open Go.RowKit Go.Maps Go.WideMaps Go.Joins
theorem ack(f:Nat)(B P R:Nat)(s:ByteArray)(own:List Nat)(now i up:Nat)(k:List UInt8)(p d:Nat)(ns:List Tn)(w:World)(h:Dt w B P R s now d (.ok i) ns own)(hs:s.size<=100000)(W:WF ns own)(V:WT ns)(hu:up<ns.length)(hk2:¬ak ns up=2)(hd:d<=8)(hsz:ns.length+(s.size-i)<=700000)(hf:2*(s.size-i)+1<=f+1)(hx:nx s.data.toList i=34) :
  Calls prog 83 #[.pointer (some ⟨R,0,none⟩),.int .i64 (up:Nat),.string ⟨k.toArray⟩,.int .i64 (p:Nat)] w (qc B P R s now d own (val s.data.toList (f+1) i up k p d ns) w):=by
 have hl:s.data.toList.length=s.size:=by simp
 obtain⟨c0,c1,c5,-,-,hi,-⟩:=h.cells;have HD:Hd (Dt w B P R s now d (.ok i) ns own):=h;rw[acg _ _ _ _ _ _ _ _ hx];have hlt0:i<s.size:=by have:=bH (l:=s.data.toList) (i:=i) (by omega);omega
 have hlt:i<s.size:=hlt0;have hge:decide ((s.size:Int)<=(i:Int))=false:=by simp;omega
 have lJ:¬(s.size:Int)<=(i:Int):=by omega
 have gq:Hd (nx s.data.toList i=(s[i].toNat:Int)):=byte_at s i hlt;have q34:((s[i].toNat:Int) == 34)=true:=by rw[<-gq.o,hx];rfl
 have CQ:Hd (∀w,Dt w B P R s now d (.ok i) ns own->Calls prog 119 #[.pointer (some ⟨R,0,none⟩)] w (UR B P R s now d ns own (str s.data.toList (s.data.toList.length+1) (i+1) []) w)):=fun w h=>ace B P R s now d i ns own w h hx hs
 have CA:Hd (∀(q:Rs Nat) (t:List UInt8) w,Dt w B P R s now d q ns own->Calls prog 29 #[.pointer (some ⟨R,0,none⟩),.int .i64 (up:Nat),.agg #[.int .i64 3,.string ⟨k.toArray⟩,.string ⟨t.toArray⟩,.int .i64 0,.slice none 0 0,.int .i64 (p:Nat)]] w (zT B P R s now d q ns own (addN ns up ⟨3,k,t,0,[],p⟩) w)):=fun q t w h=>uJ B P R s now d q ns own up 3 0 k t p w h W hu (by omega)
 obtain⟨G,hG⟩:=zN (str s.data.toList (s.data.toList.length+1) (i+1) []);rw[hG]at CQ ⊢;obtain⟨Q,hQ⟩:∃Q:Rs (Nat × List Tn),(sV (fun t=>addN ns up ⟨3,k,t,0,[],p⟩) G)=Q:=⟨_,rfl⟩;have HQ:Hd ((sV (fun t=>addN ns up ⟨3,k,t,0,[],p⟩) G)=Q):=hQ;rw[hQ];clear h hx hG hQ V W hk2 gq;go_enter func83,ntmps83;go_wp2;go_quiet (fail);have aF:=HD.o.drew nq;have dG:Hd (Dt (w.drewN nq) B P R s now d (.ok i) ns own):=aF.1;have bK:Hd (DFr B P w (w.drewN nq)):=aF.2;obtain⟨wA,hwA⟩:∃W,w.drewN nq=W:=⟨_,rfl⟩;rw[hwA]at dG bK ⊢;obtain⟨d0,d1,d5,-,-,-,-⟩:=dG.o.cells;clear hwA aF c0 c1 c5;go_wp2;go_quiet (fail);have aN:=dG.o.drew nq;have jS:Hd (Dt (wA.drewN nq) B P R s now d (.ok i) ns own):=aN.1;have kR:Hd (DFr B P w (wA.drewN nq)):=bK.o.two aN.2;obtain⟨wB,hwB⟩:∃W,wA.drewN nq=W:=⟨_,rfl⟩;rw[hwB]at jS kR ⊢;obtain⟨g0,g1,g5,-,-,-,-⟩:=jS.o.cells;clear hwB aN d0 d1 d5
 go_wp2_with (go_at_call 119;refine(CQ.o _ jS.o).mono ?_);rintro e w2 ⟨h1,h2,hf2⟩;have HF2:Hd (DFr B P w w2):=kR.o.two hf2;clear hf2
 match G,h1,h2,HQ with
 | .error c,_,h2,HQ =>
  obtain⟨t,rfl,hd2⟩:=h2 c rfl;have HD2:Hd (Dt w2 B P R s now d (.error c) ns own):=hd2;have jB:Hd (Q=.error c):=HQ.o.symm;clear h2 hd2;go_wp2_with (go_at_call 29;refine(CA.o _ t _ HD2.o).mono ?_;rintro e w3 ⟨rfl,hd3,hf3⟩);refine bodyPost_end (results_none rfl _ _ _) rfl ?_;rw[jB.o];exact⟨rfl,fun j ns' hh=>(by cases hh),fun c' hh=>(by injection hh with hh;subst hh;exact hd3.fq),HF2.o.two hf3⟩
 | .ok (t,j),h1,_,HQ =>
  obtain⟨rfl,hd2⟩:=h1 t j rfl;have HD2:Hd (Dt w2 B P R s now d (.ok j) ns own):=hd2;have jB:Hd (Q=.ok (j,addN ns up ⟨3,k,t,0,[],p⟩)):=HQ.o.symm;clear h1 hd2;go_wp2_with (go_at_call 29;refine(CA.o _ t _ HD2.o).mono ?_;rintro e w3 ⟨rfl,hd3,hf3⟩);refine bodyPost_end (results_none rfl _ _ _) rfl ?_;rw[jB.o];exact⟨rfl,fun j ns' hh=>(by cases hh;exact hd3),fun c' hh=>(by cases hh),HF2.o.two hf3⟩
open Go.RowKit Go.Maps Go.WideMaps Go.Joins
theorem acl(f:Nat)(B P R:Nat)(s:ByteArray)(own:List Nat)(now i up:Nat)(k:List UInt8)(p d:Nat)(ns:List Tn)(w:World)(h:Dt w B P R s now d (.ok i) ns own)(hs:s.size<=100000)(W:WF ns own)(V:WT ns)(hu:up<ns.length)(hk2:¬ak ns up=2)(hd:d<=8)(hsz:ns.length+(s.size-i)<=700000)(hf:2*(s.size-i)+1<=f+1)(hx:nx s.data.toList i=43\/nx s.data.toList i=45\/au (nx s.data.toList i)=true) :
  Calls prog 83 #[.pointer (some ⟨R,0,none⟩),.int .i64 (up:Nat),.string ⟨k.toArray⟩,.int .i64 (p:Nat)] w (qc B P R s now d own (val s.data.toList (f+1) i up k p d ns) w):=by
 have hl:s.data.toList.length=s.size:=by simp
 obtain⟨c0,c1,c5,-,-,hi,-⟩:=h.cells;have HD:Hd (Dt w B P R s now d (.ok i) ns own):=h;have hx34:¬nx s.data.toList i=34:=fun e=>by rw[e]at hx;revert hx;decide
 have hx91:¬nx s.data.toList i=91:=fun e=>by rw[e]at hx;revert hx;decide
 rw[ach _ _ _ _ _ _ _ _ hx34 hx];have hlt0:i<s.size:=by
  have:=bH (l:=s.data.toList) (i:=i) (by
   rcases hx with h|h|h
   ·rw[h];decide
   ·rw[h];decide
   ·have:=of_decide_eq_true h;omega)
  omega
 have hlt:i<s.size:=hlt0;have hge:decide ((s.size:Int)<=(i:Int))=false:=by simp;omega
 have lJ:¬(s.size:Int)<=(i:Int):=by omega
 have gq:Hd (nx s.data.toList i=(s[i].toNat:Int)):=byte_at s i hlt;have q34:((s[i].toNat:Int) == 34)=false:=by rw[beq_eq_false_iff_ne,<-gq.o];exact hx34
 have q91:((s[i].toNat:Int) == 91)=false:=by rw[beq_eq_false_iff_ne,<-gq.o];exact hx91
 have CD:Hd (∀w,Calls prog 122 #[.int .u8 (s[i].toNat:Int)] w fun e w'=>e=.returned (.bool (au (s[i].toNat:Int)))/\w'=w):=yX s[i];have uK:Hd (((s[i].toNat:Int) == 43)=true\/(((s[i].toNat:Int) == 43)=false/\((s[i].toNat:Int) == 45)=true)\/(((s[i].toNat:Int) == 43)=false/\((s[i].toNat:Int) == 45)=false/\au (s[i].toNat:Int)=true)):=by
  show _\/_;rw[gq.o]at hx
  by_cases h1:(s[i].toNat:Int)=43
  ·left;simpa using h1
  ·by_cases h2:(s[i].toNat:Int)=45
   ·right;left;exact⟨by simpa using h1,by simpa using h2⟩
   ·right;right;exact⟨by simpa using h1,by simpa using h2,by rcases hx with h|h|h;exact(h1 h).elim;exact(h2 h).elim;exact h⟩
 have CQ:Hd (∀w,Dt w B P R s now d (.ok i) ns own->Calls prog 123 #[.pointer (some ⟨R,0,none⟩)] w (UT B P R s now d ns own (jf s.data.toList i) w)):=fun w h=>acf B P R s now d i ns own w h hlt hx hs
 have CA:Hd (∀(q:Rs Nat) (t:Int) w,Dt w B P R s now d q ns own->Calls prog 29 #[.pointer (some ⟨R,0,none⟩),.int .i64 (up:Nat),.agg #[.int .i64 4,.string ⟨k.toArray⟩,.string ⟨#[]⟩,.int .i64 t,.slice none 0 0,.int .i64 (p:Nat)]] w (zT B P R s now d q ns own (addN ns up ⟨4,k,[],t,[],p⟩) w)):=fun q t w h=>uJ B P R s now d q ns own up 4 t k [] p w h W hu (by omega)
 obtain⟨G,hG⟩:=zN (jf s.data.toList i);rw[hG]at CQ ⊢;obtain⟨Q,hQ⟩:∃Q:Rs (Nat × List Tn),(sV (fun n=>addN ns up ⟨4,k,[],n,[],p⟩) G)=Q:=⟨_,rfl⟩;have HQ:Hd ((sV (fun n=>addN ns up ⟨4,k,[],n,[],p⟩) G)=Q):=hQ;rw[hQ];obtain⟨bd,hbd⟩:∃b,au (s[i].toNat:Int)=b:=⟨_,rfl⟩;rw[hbd]at CD uK;clear h hx hG hQ V W hk2 gq hx34 hx91 hbd;go_enter func83,ntmps83;go_wp2;go_quiet (fail);have aF:=HD.o.drew nq;have dG:Hd (Dt (w.drewN nq) B P R s now d (.ok i) ns own):=aF.1;have bK:Hd (DFr B P w (w.drewN nq)):=aF.2;obtain⟨wA,hwA⟩:∃W,w.drewN nq=W:=⟨_,rfl⟩;rw[hwA]at dG bK ⊢;obtain⟨d0,d1,d5,-,-,-,-⟩:=dG.o.cells;clear hwA aF c0 c1 c5;go_wp2;go_quiet (fail);have aN:=dG.o.drew nq;have jS:Hd (Dt (wA.drewN nq) B P R s now d (.ok i) ns own):=aN.1;have kR:Hd (DFr B P w (wA.drewN nq)):=bK.o.two aN.2;obtain⟨wB,hwB⟩:∃W,wA.drewN nq=W:=⟨_,rfl⟩;rw[hwB]at jS kR ⊢
 obtain⟨g0,g1,g5,-,-,-,-⟩:=jS.o.cells;clear hwB aN d0 d1 d5
 rcases uK.o with q43|⟨q43,q45⟩|⟨q43,q45,rfl⟩
 ·go_wp2_with (go_at_call 123;refine(CQ.o _ jS.o).mono ?_);rintro e w2 ⟨h1,h2,hf2⟩;have HF2:Hd (DFr B P w w2):=kR.o.two hf2;clear hf2
  match G,h1,h2,HQ with
  | .error c,_,h2,HQ =>
   obtain⟨t,rfl,hd2⟩:=h2 c rfl;have HD2:Hd (Dt w2 B P R s now d (.error c) ns own):=hd2;have jB:Hd (Q=.error c):=HQ.o.symm;clear h2 hd2;go_wp2_with (go_at_call 29;refine(CA.o _ t _ HD2.o).mono ?_;rintro e w3 ⟨rfl,hd3,hf3⟩);refine bodyPost_end (results_none rfl _ _ _) rfl ?_;rw[jB.o];exact⟨rfl,fun j ns' hh=>(by cases hh),fun c' hh=>(by injection hh with hh;subst hh;exact hd3.fq),HF2.o.two hf3⟩
  | .ok (t,j),h1,_,HQ =>
   obtain⟨rfl,hd2⟩:=h1 t j rfl;have HD2:Hd (Dt w2 B P R s now d (.ok j) ns own):=hd2;have jB:Hd (Q=.ok (j,addN ns up ⟨4,k,[],t,[],p⟩)):=HQ.o.symm;clear h1 hd2;go_wp2_with (go_at_call 29;refine(CA.o _ t _ HD2.o).mono ?_;rintro e w3 ⟨rfl,hd3,hf3⟩);refine bodyPost_end (results_none rfl _ _ _) rfl ?_;rw[jB.o];exact⟨rfl,fun j ns' hh=>(by cases hh;exact hd3),fun c' hh=>(by cases hh),HF2.o.two hf3⟩
 ·go_wp2_with (go_at_call 123;refine(CQ.o _ jS.o).mono ?_);rintro e w2 ⟨h1,h2,hf2⟩;have HF2:Hd (DFr B P w w2):=kR.o.two hf2;clear hf2
  match G,h1,h2,HQ with
  | .error c,_,h2,HQ =>
   obtain⟨t,rfl,hd2⟩:=h2 c rfl;have HD2:Hd (Dt w2 B P R s now d (.error c) ns own):=hd2;have jB:Hd (Q=.error c):=HQ.o.symm;clear h2 hd2;go_wp2_with (go_at_call 29;refine(CA.o _ t _ HD2.o).mono ?_;rintro e w3 ⟨rfl,hd3,hf3⟩);refine bodyPost_end (results_none rfl _ _ _) rfl ?_;rw[jB.o];exact⟨rfl,fun j ns' hh=>(by cases hh),fun c' hh=>(by injection hh with hh;subst hh;exact hd3.fq),HF2.o.two hf3⟩
  | .ok (t,j),h1,_,HQ =>
   obtain⟨rfl,hd2⟩:=h1 t j rfl;have HD2:Hd (Dt w2 B P R s now d (.ok j) ns own):=hd2;have jB:Hd (Q=.ok (j,addN ns up ⟨4,k,[],t,[],p⟩)):=HQ.o.symm;clear h1 hd2;go_wp2_with (go_at_call 29;refine(CA.o _ t _ HD2.o).mono ?_;rintro e w3 ⟨rfl,hd3,hf3⟩);refine bodyPost_end (results_none rfl _ _ _) rfl ?_;rw[jB.o];exact⟨rfl,fun j ns' hh=>(by cases hh;exact hd3),fun c' hh=>(by cases hh),HF2.o.two hf3⟩
 ·go_wp2_with (first|(go_at_call 123;refine(CQ.o _ jS.o).mono ?_)|(go_at_call 122;refine(CD.o _).mono ?_;rintro e w' ⟨rfl,rfl⟩));rintro e w2 ⟨h1,h2,hf2⟩;have HF2:Hd (DFr B P w w2):=kR.o.two hf2;clear hf2
  match G,h1,h2,HQ with
  | .error c,_,h2,HQ =>
   obtain⟨t,rfl,hd2⟩:=h2 c rfl;have HD2:Hd (Dt w2 B P R s now d (.error c) ns own):=hd2;have jB:Hd (Q=.error c):=HQ.o.symm;clear h2 hd2;go_wp2_with (go_at_call 29;refine(CA.o _ t _ HD2.o).mono ?_;rintro e w3 ⟨rfl,hd3,hf3⟩);refine bodyPost_end (results_none rfl _ _ _) rfl ?_;rw[jB.o];exact⟨rfl,fun j ns' hh=>(by cases hh),fun c' hh=>(by injection hh with hh;subst hh;exact hd3.fq),HF2.o.two hf3⟩
  | .ok (t,j),h1,_,HQ =>
   obtain⟨rfl,hd2⟩:=h1 t j rfl;have HD2:Hd (Dt w2 B P R s now d (.ok j) ns own):=hd2;have jB:Hd (Q=.ok (j,addN ns up ⟨4,k,[],t,[],p⟩)):=HQ.o.symm;clear h1 hd2;go_wp2_with (go_at_call 29;refine(CA.o _ t _ HD2.o).mono ?_;rintro e w3 ⟨rfl,hd3,hf3⟩);refine bodyPost_end (results_none rfl _ _ _) rfl ?_;rw[jB.o];exact⟨rfl,fun j ns' hh=>(by cases hh;exact hd3),fun c' hh=>(by cases hh),HF2.o.two hf3⟩
open Go.RowKit Go.Maps Go.WideMaps Go.Joins
theorem acm(f:Nat)(CL:DR f)(B P R:Nat)(s:ByteArray)(own:List Nat)(now i up:Nat)(k:List UInt8)(p d:Nat)(ns:List Tn)(w:World)(h:Dt w B P R s now d (.ok i) ns own)(hs:s.size<=100000)(W:WF ns own)(V:WT ns)(hu:up<ns.length)(hk2:¬ak ns up=2)(hd:d<=8)(hsz:ns.length+(s.size-i)<=700000)(hf:2*(s.size-i)+1<=f+1)(hx:nx s.data.toList i=91) :
  Calls prog 83 #[.pointer (some ⟨R,0,none⟩),.int .i64 (up:Nat),.string ⟨k.toArray⟩,.int .i64 (p:Nat)] w (qc B P R s now d own (val s.data.toList (f+1) i up k p d ns) w):=by
 have hl:s.data.toList.length=s.size:=by simp
 obtain⟨c0,c1,c5,-,-,hi,-⟩:=h.cells;have HD:Hd (Dt w B P R s now d (.ok i) ns own):=h;rw[sN];rw[if_neg (by rw[hx];decide),if_neg (by rw[hx];decide),if_neg (by rw[hx];decide),if_pos hx];have hlt0:i<s.size:=by have:=bH (l:=s.data.toList) (i:=i) (by omega);omega
 have hlt:i<s.size:=hlt0;have hge:decide ((s.size:Int)<=(i:Int))=false:=by simp;omega
 have lJ:¬(s.size:Int)<=(i:Int):=by omega
 have gq:Hd (nx s.data.toList i=(s[i].toNat:Int)):=byte_at s i hlt;have q34:((s[i].toNat:Int) == 34)=false:=by rw[beq_eq_false_iff_ne,<-gq.o];rw[hx];decide
 have q91:((s[i].toNat:Int) == 91)=true:=by rw[<-gq.o,hx];rfl
 have CQ:Hd (∀w,Dt w B P R s now d (.ok i) ns own->Calls prog 121 #[.pointer (some ⟨R,0,none⟩),.int .i64 (up:Nat),.string ⟨k.toArray⟩,.int .i64 (p:Nat)] w (qc B P R s now d own (if d=8 then .error (4,i) else lst s.data.toList f (i+1) ns.length (d+1) (addN ns up ⟨1,k,[],0,[],p⟩)) w)):=fun w h=>CL B P R s own now i up k p d ns w h hs hx W V hu hk2 hd hsz (by omega)
 obtain⟨G,hG⟩:∃G:Rs (Nat × List Tn),(if d=8 then .error (4,i) else lst s.data.toList f (i+1) ns.length (d+1) (addN ns up ⟨1,k,[],0,[],p⟩))=G:=⟨_,rfl⟩;rw[hG]at CQ ⊢;clear h hx hG V W hk2 gq;go_enter func83,ntmps83;go_wp2;go_quiet (fail);have aF:=HD.o.drew nq;have dG:Hd (Dt (w.drewN nq) B P R s now d (.ok i) ns own):=aF.1;have bK:Hd (DFr B P w (w.drewN nq)):=aF.2;obtain⟨wA,hwA⟩:∃W,w.drewN nq=W:=⟨_,rfl⟩;rw[hwA]at dG bK ⊢;obtain⟨d0,d1,d5,-,-,-,-⟩:=dG.o.cells;clear hwA aF c0 c1 c5;go_wp2;go_quiet (fail);have aN:=dG.o.drew nq;have jS:Hd (Dt (wA.drewN nq) B P R s now d (.ok i) ns own):=aN.1;have kR:Hd (DFr B P w (wA.drewN nq)):=bK.o.two aN.2;obtain⟨wB,hwB⟩:∃W,wA.drewN nq=W:=⟨_,rfl⟩;rw[hwB]at jS kR ⊢;obtain⟨g0,g1,g5,-,-,-,-⟩:=jS.o.cells;clear hwB aN d0 d1 d5;go_wp2_with (go_at_call 121;refine(CQ.o _ jS.o).mono ?_;rintro e w2 ⟨rfl,h1,h2,hf2⟩)
 refine bodyPost_end (results_none rfl _ _ _) rfl ?_;exact⟨rfl,h1,h2,kR.o.two hf2⟩
open Go.RowKit Go.Maps Go.WideMaps Go.Joins
theorem acn(f:Nat)(B P R:Nat)(s:ByteArray)(own:List Nat)(now i up:Nat)(k:List UInt8)(p d:Nat)(ns:List Tn)(w:World)(h:Dt w B P R s now d (.ok i) ns own)(hs:s.size<=100000)(W:WF ns own)(V:WT ns)(hu:up<ns.length)(hk2:¬ak ns up=2)(hd:d<=8)(hsz:ns.length+(s.size-i)<=700000)(hf:2*(s.size-i)+1<=f+1)(hlt0:i<s.size)(n34:¬nx s.data.toList i=34)(nin:¬(nx s.data.toList i=43\/nx s.data.toList i=45\/au (nx s.data.toList i)=true))(ntf:¬(nx s.data.toList i=116\/nx s.data.toList i=102))(n91:¬nx s.data.toList i=91) :
  Calls prog 83 #[.pointer (some ⟨R,0,none⟩),.int .i64 (up:Nat),.string ⟨k.toArray⟩,.int .i64 (p:Nat)] w (qc B P R s now d own (val s.data.toList (f+1) i up k p d ns) w):=by
 have hl:s.data.toList.length=s.size:=by simp
 obtain⟨c0,c1,c5,-,-,hi,-⟩:=h.cells;have HD:Hd (Dt w B P R s now d (.ok i) ns own):=h;rw[sN];rw[if_neg n34,if_neg nin,if_neg ntf,if_neg n91];have n43:¬nx s.data.toList i=43:=fun e=>nin (Or.inl e)
 have n45:¬nx s.data.toList i=45:=fun e=>nin (Or.inr (Or.inl e))
 have ndg:au (nx s.data.toList i)=false:=by cases hh:au (nx s.data.toList i);rfl;exact(nin (Or.inr (Or.inr hh))).elim
 have n116:¬nx s.data.toList i=116:=fun e=>ntf (Or.inl e)
 have n102:¬nx s.data.toList i=102:=fun e=>ntf (Or.inr e)
 have hlt:i<s.size:=hlt0;have hge:decide ((s.size:Int)<=(i:Int))=false:=by simp;omega
 have lJ:¬(s.size:Int)<=(i:Int):=by omega
 have gq:Hd (nx s.data.toList i=(s[i].toNat:Int)):=byte_at s i hlt;have q34:((s[i].toNat:Int) == 34)=false:=by rw[beq_eq_false_iff_ne,<-gq.o];exact n34
 have q91:((s[i].toNat:Int) == 91)=false:=by rw[beq_eq_false_iff_ne,<-gq.o];exact n91
 have q43:((s[i].toNat:Int) == 43)=false:=by rw[beq_eq_false_iff_ne,<-gq.o];exact n43
 have q45:((s[i].toNat:Int) == 45)=false:=by rw[beq_eq_false_iff_ne,<-gq.o];exact n45
 have q116:((s[i].toNat:Int) == 116)=false:=by rw[beq_eq_false_iff_ne,<-gq.o];exact n116
 have q102:((s[i].toNat:Int) == 102)=false:=by rw[beq_eq_false_iff_ne,<-gq.o];exact n102
 have CD:Hd (∀w,Calls prog 122 #[.int .u8 (s[i].toNat:Int)] w fun e w'=>e=.returned (.bool false)/\w'=w):=fun w=>by
  have:=yX s[i] w;rw[<-gq.o,ndg]at this;rw[<-gq.o];exact this
 have CF:Hd (∀w,Dt w B P R s now d (.ok i) ns own->Calls prog 82 #[.pointer (some ⟨R,0,none⟩),.int .i64 2,.int .i64 (i:Nat)] w fun e w'=>e=.returned (.tuple #[])/\Dt w' B P R s now d (.error (2,i)) ns own/\DFr B P w w'):=fun w h=>yA B P R s now d ns own i w h 2 (by decide) i
 clear h V W hk2 gq n34 nin ntf n91 n43 n45 ndg n116 n102;go_enter func83,ntmps83;go_wp2;go_quiet (fail);have aF:=HD.o.drew nq;have dG:Hd (Dt (w.drewN nq) B P R s now d (.ok i) ns own):=aF.1;have bK:Hd (DFr B P w (w.drewN nq)):=aF.2;obtain⟨wA,hwA⟩:∃W,w.drewN nq=W:=⟨_,rfl⟩;rw[hwA]at dG bK ⊢;obtain⟨d0,d1,d5,-,-,-,-⟩:=dG.o.cells;clear hwA aF c0 c1 c5;go_wp2;go_quiet (fail);have aN:=dG.o.drew nq;have jS:Hd (Dt (wA.drewN nq) B P R s now d (.ok i) ns own):=aN.1;have kR:Hd (DFr B P w (wA.drewN nq)):=bK.o.two aN.2;obtain⟨wB,hwB⟩:∃W,wA.drewN nq=W:=⟨_,rfl⟩;rw[hwB]at jS kR ⊢;obtain⟨g0,g1,g5,-,-,-,-⟩:=jS.o.cells;clear hwB aN d0 d1 d5;go_wp2_with (first|(go_at_call 122;refine(CD.o _).mono ?_;rintro e w' ⟨rfl,rfl⟩)|(go_at_call 82;refine(CF.o _ jS.o).mono ?_;rintro e w2 ⟨rfl,hd2,hf2⟩));refine bodyPost_end (results_none rfl _ _ _) rfl ?_
 exact⟨rfl,fun j ns' hh=>(by cases hh),fun c hh=>(by cases hh;exact hd2.fq),kR.o.two hf2⟩
end Go.Proofs.YtnnbgjaphfhibaaGreatDoor
