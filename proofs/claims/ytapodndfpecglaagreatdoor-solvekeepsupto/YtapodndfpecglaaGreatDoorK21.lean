import Derived.Test.YtapodndfpecglaaGreatDoorK19
set_option linter.all false
set_option maxRecDepth 100000
set_option maxHeartbeats 0
open Go.Proofs.Tryz
namespace Go.Proofs.YtapodndfpecglaaGreatDoor
open Go.RowKit Go.Maps Go.Joins
structure Dy(B S M:Nat)(pv nv cm:Value)(row:List ByteArray)(ch:List Nat)(A D:Nat)(rv cv:Value)(f:Int)(w:World):Prop where
 sb:Sb w S pv nv cm rv (.map (some M)) cv f A D
 f0:0<=f
 f1:f<9223372036854775808
 rr:w.ownsRow B 9 1 rv row.length (row.map .string)
 cc:w.ownsRow B 3 1 cv ch.length (ch.map fun(j:Nat)=>Value.int .i64 (j:Int))
 ir:InR w M row
structure Ro(n:Nat)(P:List Pl)(NS:Nat->List ByteArray)(CD:ByteArray->Nat->Prop)(B S M nb Mc:Nat)(pv:Value)(w:World):Prop where
 pl:PlS w pv P
 nm:∀k,k<n->∃ng ncc,w.cell? ⟨nb,k,none⟩=some (.slice (some ⟨ng,0,none⟩) (NS k).length ncc)/\(NS k).length<=ncc/\¬Xb B S M ng/\∀i (hi:i<(NS k).length),w.cell? ⟨ng,i,none⟩=some (.string (NS k)[i])
 cd:∃q D,w.ownsMap prog 9 ja Mc q D/\∀x,∃v cs,ja v=some (D.atKey (kT x) sV,[])/\(∀w',Fx (Xb B S M) w w'->IS w' v cs)/\cs.length<=64/\∀c∈cs,∃k:Nat,c=(k:Int)/\k<n/\CD x k
section
variable {B S M:Nat} {pv nv cm rv cv rv' cv':Value} {row:List ByteArray} {ch:List Nat} {A D:Nat} {f:Int} {w w' w'':World}
theorem Dy.fx(h:Dy B S M pv nv cm row ch A D rv cv f w){X:Nat->Prop}(hf:Fx X w w')(hS:¬X S)(hM:¬X M)(hr:∀g,rv.ownBlock=some g->¬X g)(hc:∀g,cv.ownBlock=some g->¬X g):Dy B S M pv nv cm row ch A D rv cv f w':=⟨h.sb.fx hf hS,h.f0,h.f1,iY h.rr hf hr,iY h.cc hf hc,h.ir.fx hf hM⟩
theorem Dy.grow(h:Dy B S M pv nv cm row ch A D rv cv f w)(hg:w.grownBy w' none):Dy B S M pv nv cm row ch A D rv cv f w':=h.fx ((Fx.refl (fun _=>False) w).gb hg (fun b e=>by cases e)) (fun h=>h) (fun h=>h) (fun _ _ h=>h) (fun _ _ h=>h)
theorem Dy.burn(h:Dy B S M pv nv cm row ch A D rv cv f w)(hf:0<f)(hSM:¬S=M):Dy B S M pv nv cm row ch A D rv cv (f-1) (w.setCell ⟨S,3,none⟩ (.int .i64 (f-1))):=by
 have f2:Fx (fun b=>b=S) w (w.setCell ⟨S,3,none⟩ (.int .i64 (f-1))):=(Fx.refl (fun b=>b=S) w).set (Or.inl rfl) _ _;have h1:=h.f1;exact⟨h.sb.setF _,by omega,by omega,iY h.rr f2 (fun g hg=>row_ne h.sb h.rr (by decide) hg),iY h.cc f2 (fun g hg=>row_ne h.sb h.cc (by decide) hg),h.ir.fx f2 (fun e=>hSM e.symm)⟩
theorem Dy.lt(h:Dy B S M pv nv cm row ch A D rv cv f w):S<w.heap.size/\M<w.heap.size:=by
 refine⟨(aA h.sb),?_⟩;obtain⟨D',hD',-⟩:=h.ir;exact hD'.lt
def FD(S M:Nat)(rv cv rv' cv':Value)(w w':World):Prop:=Fx (Xr S M rv cv) w w'/\(∀g,rv'.ownBlock=some g->rv.ownBlock=some g\/w.heap.size<=g)/\∀g,cv'.ownBlock=some g->cv.ownBlock=some g\/w.heap.size<=g
theorem FD.refl(S M:Nat)(rv cv:Value)(w:World):FD S M rv cv rv cv w w:=⟨Fx.refl _ w,fun _ h=>Or.inl h,fun _ h=>Or.inl h⟩
theorem FD.fx(h:FD S M rv cv rv' cv' w w')(hf:Fx (Xr S M rv' cv') w' w''):Fx (Xr S M rv cv) w w'':=by
 obtain⟨h1,h2,h3⟩:=h;refine⟨hf.os.trans h1.os,hf.tape.trans h1.tape,hf.output.trans h1.output,Nat.le_trans h1.size hf.size,fun b hb hn=>(hf.block b (Nat.lt_of_lt_of_le hb h1.size) ?_).trans (h1.block b hb hn)⟩;rintro(h|h|h|h)
 ·exact hn (Or.inl h)
 ·exact hn (Or.inr (Or.inl h))
 ·rcases h2 b h with h|h
  ·exact hn (Or.inr (Or.inr (Or.inl h)))
  ·omega
 ·rcases h3 b h with h|h
  ·exact hn (Or.inr (Or.inr (Or.inr h)))
  ·omega
theorem FD.trans{rv'' cv'':Value}(h:FD S M rv cv rv' cv' w w')(h':FD S M rv' cv' rv'' cv'' w' w''):FD S M rv cv rv'' cv'' w w'':=by
 have hs:=h.1.size;refine⟨h.fx h'.1,fun g hg=>?_,fun g hg=>?_⟩
 ·rcases h'.2.1 g hg with e|e
  ·exact h.2.1 g e
  ·exact Or.inr (by omega)
 ·rcases h'.2.2 g hg with e|e
  ·exact h.2.2 g e
  ·exact Or.inr (by omega)
theorem FD.sm(h:FD S M rv cv rv' cv' w w'){rv'' cv'':Value}(hf:Fx (fun b=>b=S\/b=M) w' w'')(hr:rv''.ownBlock=rv'.ownBlock)(hc:cv''.ownBlock=cv'.ownBlock):FD S M rv cv rv'' cv'' w w'' :=
 h.trans ⟨hf.mono (fun b hb=>hb.elim Or.inl fun e=>Or.inr (Or.inl e)),fun g hg=>Or.inl (hr ▸ hg),fun g hg=>Or.inl (hc ▸ hg)⟩
theorem FD.gb(h:FD S M rv cv rv' cv' w w')(hg:w'.grownBy w'' none):FD S M rv cv rv' cv' w w'':=h.sm ((Fx.refl _ w').gb hg (fun b e=>by cases e)) rfl rfl
theorem FD.xb(h:FD S M rv cv rv' cv' w w')(hy:Dy B S M pv nv cm row ch A D rv cv f w):Fx (Xb B S M) w w':=h.1.mono fun b hb=>by
 rcases hb with h|h|h|h
 ·exact Or.inl h
 ·exact Or.inr (Or.inl h)
 ·exact Or.inr (Or.inr (pM hy.rr h).1)
 ·exact Or.inr (Or.inr (pM hy.cc h).1)
theorem EH{w:World}{B n:Nat}{e:TypeId}{v:Value}{xs:List Value}(h:w.ownsRow B e 1 v n xs){i:Nat}(hi:i<n):∃g c,v=.slice (some ⟨g,0,none⟩) n c/\n<=c/\w.cell? ⟨g,i,none⟩=xs[i]?:=by
 rcases h.2 with⟨rfl,hn0⟩|⟨g,c,cur,rfl,hgB,hgb,hnc,hcm,hcs,hct⟩
 ·omega
 ·refine⟨g,c,rfl,hnc,?_⟩;rw[ag hgb,<-hct,List.getElem?_take,if_pos (by omega),Array.getElem?_toList]
theorem Dy.back{row':List ByteArray}{k:Nat}{A' D':Nat}{rv4 rv5:Value}{co:Option Addr}{cc:Nat}{w4 w5:World}(h:Dy B S M pv nv cm row' (ch++[k]) A' D' rv4 (.slice co (ch.length+1) cc) f w4)(hSM:¬S=M)(hp:row'.take row.length=row)(k1:Sb w5 S pv nv cm rv5 (.map (some M)) (.slice co ch.length cc) f A D)(k2:w5.ownsRow B 9 1 rv5 row.length ((row'.take row.length).map .string))(k3:InR w5 M (row'.take row.length))(k4:Fx (fun b=>b=S\/b=M) w4 w5):Dy B S M pv nv cm row ch A D rv5 (.slice co ch.length cc) f w5:=by
 rw[hp]at k2 k3;have hc:=h.cc;rw[List.length_append]at hc;obtain⟨g,c,e,h1,-⟩:=EH hc (i:=0) (by simp)
 cases e
 refine⟨k1,h.f0,h.f1,k2,?_,k3⟩;have h2:=OM (iY hc k4 (fun b hb hh=>hh.elim (row_ne h.sb hc (by decide) hb) (fun e=>IV h.ir hc (e ▸ hb)))) (m:=ch.length) (by simp)
 rwa [List.map_append,List.take_left' (by simp)]at h2
def Qi(I:List ByteArray->List Nat->Nat->Nat->Prop)(B S M:Nat)(pv nv cm:Value)(row:List ByteArray)(ch:List Nat)(A D:Nat)(rv cv:Value)(w:World)(e:Ending)(w':World):Prop :=
 (e=Bi/\Fx (Xr S M rv cv) w w')\/(e=.returned (.bool true)/\Fx (Xr S M rv cv) w w'/\∃row' ch' A' D' rv' cv' f',Dy B S M pv nv cm row' ch' A' D' rv' cv' f' w'/\I row' ch' A' D'/\ch'.length=row'.length)\/(e=.returned (.bool false)/\∃rv' cv' f',Dy B S M pv nv cm row ch A D rv' cv' f' w'/\FD S M rv cv rv' cv' w w')
theorem FD.post{I:List ByteArray->List Nat->Nat->Nat->Prop}{rv0 cv0:Value}{w0:World}{row0:List ByteArray}{ch0:List Nat}{A0 D0:Nat}{e:Ending}(h:FD S M rv0 cv0 rv cv w0 w)(hp:Qi I B S M pv nv cm row ch A D rv cv w e w'):(∃v,e=.returned v/\¬v=.bool true)\/Qi I B S M pv nv cm row0 ch0 A0 D0 rv0 cv0 w0 e w':=by
 rcases hp with⟨rfl,h1⟩|⟨rfl,h1,h2⟩|⟨rfl,-⟩
 ·exact Or.inr (Or.inl ⟨rfl,h.fx h1⟩)
 ·exact Or.inr (Or.inr (Or.inl ⟨rfl,h.fx h1,h2⟩))
 ·exact Or.inl ⟨_,rfl,by simp⟩
end
open Go.RowKit Go.Maps Go.Joins
theorem Fx.dn(X:Nat->Prop)(w:World)(q:Nat):Fx X w (w.drewN q):=⟨rfl,rfl,rfl,Nat.le_refl _,fun _ _ _=>rfl⟩
theorem IY(w:World):(zeroValue 25).run prog w=.ok (.slice none 0 0) w:=by kernel_rfl
open Go.RowKit Go.Maps Go.Joins
inductive Fd where
 | out
 | no (f:Nat)
 | yes (ch:List Nat)
def sW(go:Nat->Nat->Fd)(ft:Nat->Bool):List Nat->Nat->Fd
 | [],f=>.no f
 | _ :: _,0=>.out
 | k :: r,f+1=>if ft k=true then(match go k f with | .no f'=>sW go ft r f'|x=>x) else sW go ft r f
def lC(C:ByteArray->List Nat)(ft:List Nat->Nat->Bool)(ns:Nat->List ByteArray):Nat->List ByteArray->List Nat->Nat->Fd
 | 0,_,_,_=>.out
 | d+1,row,ch,f=>if ch.length=row.length then .yes ch else sW (fun k f=>lC C ft ns d (di row (ns k)) (ch++[k]) f) (ft ch) (C (row.getD ch.length ⟨#[]⟩)) f
structure IZ(n:Nat)(P:List Pl)(NS:Nat->List ByteArray)(C:ByteArray->List Nat)(B S M nb Mc:Nat)(pv:Value)(w:World):Prop where
 pl:PlS w pv P
 nm:∀k,k<n->∃ng ncc,w.cell? ⟨nb,k,none⟩=some (.slice (some ⟨ng,0,none⟩) (NS k).length ncc)/\(NS k).length<=ncc/\¬Xb B S M ng/\∀i (hi:i<(NS k).length),w.cell? ⟨ng,i,none⟩=some (.string (NS k)[i])
 cd:∃q D,w.ownsMap prog 9 ja Mc q D/\∀x,∃v,ja v=some (D.atKey (kT x) sV,[])/\(∀w',Fx (Xb B S M) w w'->IS w' v ((C x).map fun(k:Nat)=>(k:Int)))/\(C x).length<=64/\∀k∈C x,k<n
structure Qj(n:Nat)(P:List Pl)(NS:Nat->List ByteArray)(C:ByteArray->List Nat)(ft:List Nat->Nat->Bool)(I:List ByteArray->List Nat->Nat->Nat->Prop):Prop where
 few:∀{row ch A D},I row ch A D->ch.length<=n
 le:∀{row ch A D},I row ch A D->ch.length<=row.length
 nod:∀{row ch A D},I row ch A D->row.Nodup
 len:∀{row ch A D},I row ch A D->row.length<=1048000
 sz:∀{row ch A D},I row ch A D->∀x∈row,x.size<=maxLen
 a:∀{row ch A D},I row ch A D->A<18446744073709551616
 d:∀{row ch A D},I row ch A D->D<18446744073709551616
 nsl:∀k,k<n->(NS k).length<=64
 nsz:∀k,k<n->∀x∈NS k,x.size<=maxLen
 bar:∀k (hk:k<P.length),P[k].bar<18446744073709551616
 fit:∀{row ch A D},I row ch A D->∀k (hk:k<P.length),(!(D ||| P[k].bar).testBit k && decide (P[k].bar &&& A=0))=ft ch k
 step:∀{row ch A D},I row ch A D->∀x k (hk:k<P.length),row[ch.length]?=some x->k∈C x->ft ch k=true->I (di row (NS k)) (ch++[k]) (A ||| 2 ^ k) (D ||| P[k].bar)
def Qk(R:Fd)(I:List ByteArray->List Nat->Nat->Nat->Prop)(B S M:Nat)(pv nv cm:Value)(row:List ByteArray)(ch:List Nat)(A D:Nat)(rv cv:Value)(w:World)(e:Ending)(w':World):Prop :=
 (R=.out/\e=Bi/\Fx (Xr S M rv cv) w w')\/(∃ch',R=.yes ch'/\e=.returned (.bool true)/\Fx (Xr S M rv cv) w w'/\∃row' A' D' rv' cv' f',Dy B S M pv nv cm row' ch' A' D' rv' cv' f' w'/\I row' ch' A' D'/\ch'.length=row'.length)\/(∃f',R=.no f'/\e=.returned (.bool false)/\∃rv' cv',Dy B S M pv nv cm row ch A D rv' cv' (f':Int) w'/\FD S M rv cv rv' cv' w w')
theorem aaQ(n:Nat)(P:List Pl)(NS:Nat->List ByteArray)(C:ByteArray->List Nat)(ft:List Nat->Nat->Bool)(I:List ByteArray->List Nat->Nat->Nat->Prop)(V:Qj n P NS C ft I)(B S M nb ncp Mc:Nat)(po:Option Addr)(pc:Nat)(hP:P.length=n)(hn:n<=64)(hSM:¬S=M)(hnb:¬Xb B S M nb)(hncp:n<=ncp)(w0:World)(hB0:B<=w0.heap.size)(hro:∀w',Fx (Xb B S M) w0 w'->IZ n P NS C B S M nb Mc (.slice po P.length pc) w') :
  ∀(d:Nat) (row:List ByteArray) (ch:List Nat) (A D:Nat) (rv cv:Value) (f:Int) (w:World),n+1-ch.length=d->I row ch A D->Dy B S M (.slice po P.length pc) (.slice (some ⟨nb,0,none⟩) n ncp) (.map (some Mc)) row ch A D rv cv f w->Fx (Xb B S M) w0 w →
   Calls prog 21 #[.pointer (some ⟨S,0,none⟩)] w (Qk (lC C ft NS d row ch f.toNat) I B S M (.slice po P.length pc) (.slice (some ⟨nb,0,none⟩) n ncp) (.map (some Mc)) row ch A D rv cv w):=by
 intro d
 induction d using Nat.strongRecOn with
 | ind d ih =>
 intro row ch A D rv cv f w hd hI hy hf0;obtain⟨d',rfl⟩:∃d',d=d'+1:=⟨d-1,by have:=V.few hI;omega⟩;have IH:=ae ih;have HY:=ae hy;have HI:=ae hI;have HV:=ae V;have zq:=ae hro;have EI:=ae hf0;have HD:=ae hd;have hch:=V.few hI;have hrow:=V.len hI;have hle:=V.le hI;obtain⟨ro,rc,rfl⟩:=qG hy.rr;obtain⟨co,cc,rfl⟩:=qG hy.cc;obtain⟨⟨-,-,c2,-⟩,⟨c4,-,c6⟩,-⟩:=hy.sb.cells
 by_cases hl:ch.length=row.length
 ·have HL:=ae hl;have HR1:Hd (lC C ft NS (d'+1) row ch f.toNat=.yes ch):=by
   show lC C ft NS (d'+1) row ch f.toNat=.yes ch;rw[lC,if_pos hl]
  obtain⟨R,hR⟩:=zN (lC C ft NS (d'+1) row ch f.toNat);rw[hR]at HR1 ⊢;clear hR;have hl2:((ch.length:Int) == (row.length:Int))=true:=by simp[hl]
  clear hl ih hy hI V hro hf0 hd hle;go_enter func21,ntmps21;go_wp2;go_quiet (fail);go_wp2;go_ret;exact Or.inr (Or.inl ⟨ch,HR1.o,rfl,Fx.dn _ w _,row,A,D,_,_,f,HY.o.fx (Fx.dn (fun _=>False) w _) (fun h=>h) (fun h=>h) (fun _ _ h=>h) (fun _ _ h=>h),HI.o,HL.o⟩)
 ·have hlt0:ch.length<row.length:=by omega
  have hl2:((ch.length:Int) == (row.length:Int))=false:=by simp;omega
  obtain⟨gr,rc',er,hrc,hcx⟩:=EH hy.rr hlt0
  cases er
  rw[List.getElem?_map,List.getElem?_eq_getElem hlt0,Option.map_some]at hcx;have HX:Hd (row[ch.length]?=some row[ch.length]):=List.getElem?_eq_getElem hlt0;have az:Hd (sW (fun k f=>lC C ft NS d' (di row (NS k)) (ch++[k]) f) (ft ch) (C row[ch.length]) f.toNat=lC C ft NS (d'+1) row ch f.toNat):=by
   show _=lC C ft NS (d'+1) row ch f.toNat;rw[lC,if_neg hl,List.getD_eq_getElem?_getD,List.getElem?_eq_getElem hlt0];rfl
  obtain⟨R,hR⟩:=zN (lC C ft NS (d'+1) row ch f.toNat);obtain⟨go,hgo⟩:∃go:Nat->Nat->Fd,(fun k f=>lC C ft NS d' (di row (NS k)) (ch++[k]) f)=go:=⟨_,rfl⟩;have I4:Hd (∀k f,go k f=lC C ft NS d' (di row (NS k)) (ch++[k]) f):=fun k f=>by rw[<-hgo]
  rw[hR,hgo]at az;rw[hR];clear hR hgo;have hkey:=Ej (V.sz hI row[ch.length] (List.getElem_mem _));obtain⟨x,hx⟩:=zN (row[ch.length]);rw[hx]at hcx HX hkey az;obtain⟨q,Dm,hown,hcd⟩:=(hro w hf0).cd;obtain⟨v,hv,his,hcl,hcs⟩:=hcd x;obtain⟨cx,I5⟩:=zN (C x);have HCX:=ae I5;rw[I5]at his hcl hcs az;obtain⟨cs,EJ⟩:∃cs:List Int,(cx.map fun(k:Nat)=>(k:Int))=cs:=⟨_,rfl⟩;have hlen:cs.length=cx.length:=by rw[<-EJ];simp
  have aaR:=ae EJ;rw[EJ]at his;have HIS:=ae his;have HCS:=ae hcs;obtain⟨vo,vc,rfl⟩:=H7 (his w (Fx.refl _ w));have I7:Hd (∀W:World,W.heap=w.heap->(Instr.lookup 79 (.map (some Mc)) (.string x) false).run prog W=.ok (.slice vo cs.length vc) W):=fun W hW=>by
   obtain⟨es,cl,h1,r⟩:=hown;obtain⟨v',ps,hrun,hv'⟩:=World.ownsMap.lookup (w:=W) ⟨es,cl,by rw[hW];exact h1,r⟩ keyS underlying79 (IY _) (show ja (.slice none 0 0)=some (sV,[]) from rfl) hkey;rw[PZ hv' hv]at hrun;exact hrun
  clear hl ih hy hI V hro hf0 hd hle hown hcd hv his hcs hx hkey I5 EJ;go_enter func21,ntmps21;go_wp2;go_quiet (fail);go_wp2;obtain⟨W,hW⟩:=zN (w.drewN nq);have zt:Fx (fun _=>False) w W:=hW ▸ Fx.dn _ w nq;have hrun:∀q,(Instr.lookup 79 (.map (some Mc)) (.string x) false).run prog (W.drewN q)=.ok (.slice vo cs.length vc) (W.drewN q):=fun q=>I7.o _ (by rw[<-hW];rfl)
  replace c2:=zt.cell c2 (fun h=>h);replace c4:=zt.cell c4 (fun h=>h);replace c6:=zt.cell c6 (fun h=>h);replace hcx:=zt.cell hcx (fun h=>h);rw[hW];clear hW;go_quiet (fail);go_wp2;have HWW:=ae zt;clear hrun c2 c4 c6 hcx zt;go_loopw [34] (fun vi wr=>∃(i:Nat) (rv' cv':Value) (f':Int),vi=.int .i64 i/\i<=cs.length/\sW go (ft ch) (cx.drop i) f'.toNat=R/\Dy B S M (.slice po P.length pc) (.slice (some ⟨nb,0,none⟩) n ncp) (.map (some Mc)) row ch A D rv' cv' f' wr/\FD S M (.slice (some ⟨gr,0,none⟩) row.length rc) (.slice co ch.length cc) rv' cv' w wr) (fun vi _=>cs.length-(intOf vi).toNat)
  case atStart =>
   have hx:Fx (fun _=>False) w (W.drewN nq):=HWW.o.trans (Fx.dn _ W _);exact⟨0,_,_,f,rfl,Nat.zero_le _,az.o,HY.o.fx hx (fun h=>h) (fun h=>h) (fun _ _ h=>h) (fun _ _ h=>h),hx.mono (fun b h=>h.elim),fun g h=>Or.inl h,fun g h=>Or.inl h⟩
  case round =>
   obtain⟨i,rv',cv',f',rfl,hi,hrr,hy,hfd⟩:=hrel;obtain⟨wo,hwo⟩:∃wo,wo=wr:=⟨_,rfl⟩;subst hwo;have HYR:=ae hy;have I8:=ae hfd;have hxb:=hfd.xb HY.o
   by_cases hlt:i<cs.length
   ·obtain⟨a,rfl,hvc,hat⟩:=qE (HIS.o wo hxb) hlt;have e0:=hat i hlt;have hix:i<cx.length:=by omega
    have hk1:cs[i]=(cx[i]:Int):=by
     have:∀(l:List Int) (h:i<l.length),(cx.map fun(k:Nat)=>(k:Int))=l->l[i]=(cx[i]:Int):=fun l h e=>by subst e;simp
     exact this cs hlt aaR.o
    have hk2:=HCS.o cx[i] (List.getElem_mem _);have Ql:Hd (cx[i]∈C x):=by rw[HCX.o];exact List.getElem_mem hix
    rw[List.drop_eq_getElem_cons hix]at hrr;rw[hk1]at e0;obtain⟨k,hk⟩:=zN (cx[i]);rw[hk]at hk2 Ql hrr e0;have HRR:=ae hrr;have zu:k<P.length:=by omega
    have H9:i<vc:=by omega
    have CB:Hd (Calls prog 35 #[.pointer (some ⟨S,0,none⟩)] wo fun e w'=>(f'=0/\e=Bi/\w'=wo)\/(0<f'/\e=.returned (.tuple #[])/\w'=wo.setCell ⟨S,3,none⟩ (.int .i64 (f'-1)))):=YZ S _ _ _ _ _ _ f' A D wo hy.sb hy.f0 hy.f1;clear hat hk1 hy hfd hxb hk hrr;go_wp2_with (go_at_call 35;refine CB.o.mono ?_);rintro e w1 (⟨h0,rfl,rfl⟩|⟨h0,rfl,rfl⟩)
    ·have HZ:Hd (R=.out):=by
      show R=.out;rw[<-HRR.o,h0];rfl
     exact⟨rfl,Or.inl ⟨HZ.o,rfl,I8.o.1⟩⟩
    ·have HR2:Hd ((if ft ch k=true then(match go k (f'-1).toNat with | .no f''=>sW go (ft ch) (cx.drop (i+1)) f''|z=>z) else sW go (ft ch) (cx.drop (i+1)) (f'-1).toNat)=R):=by
      show _=R;rw[<-HRR.o,show f'.toNat=(f'-1).toNat+1 by omega];rfl
     have I9:=ae (HYR.o.burn h0 hSM);have lh:=ae (I8.o.sm (rv'':=rv') (cv'':=cv') ((Fx.refl (fun b=>b=S\/b=M) wo).set (Or.inl (Or.inl rfl)) 3 (.int .i64 (f'-1))) rfl rfl);obtain⟨w1,hw1⟩:=zN (wo.setCell ⟨S,3,none⟩ (.int .i64 (f'-1)));rw[hw1]at I9 lh ⊢;have hfit:=HV.o.fit HI.o k zu;obtain⟨q,hq⟩:=zN (ft ch k);rw[hq]at hfit HR2;have HQ:=ae hq;have CF:Hd (Calls prog 36 #[.pointer (some ⟨S,0,none⟩),.int .i64 k] w1 fun e w'=>e=.returned (.bool q)/\w1.grownBy w' none):=by
      have:=fits_any S k po pc _ _ _ _ _ _ A D P w1 I9.o.sb (zq.o w1 (EI.o.trans (lh.o.xb HY.o))).pl zu (by omega) (HV.o.a HI.o) (HV.o.d HI.o) (HV.o.bar k zu);rw[hfit]at this;exact this
     clear hw1 hq e0 CB h0 hfit;go_wp2_with (go_at_call 36;refine CF.o.mono ?_);rintro e w2 ⟨rfl,hg2⟩;have lq:=ae (I9.o.grow hg2);have HF2:=ae (lh.o.gb hg2);clear hg2
     cases q with
     | false =>
      go_wp2;exact⟨⟨i+1,rv',cv',f'-1,by go_num,by omega,by have:=HR2.o;rw[if_neg (by simp)]at this;exact this,lq.o,HF2.o⟩,by simp[intOf];omega⟩
     | true =>
      obtain⟨co',cc',rfl⟩:=qG lq.o.cc;have hx2:=EI.o.trans (HF2.o.xb HY.o);have wJ:=ae hx2;obtain⟨ng,ncc,n1,n2,n3,n4⟩:=(zq.o w2 hx2).nm k hk2;have hnl:=HV.o.nsl k hk2;have CH:Hd (Calls prog 37 #[.pointer (some ⟨S,0,none⟩),.int .i64 k] w2 (IR B S M k (.slice po P.length pc) (.slice (some ⟨nb,0,none⟩) n ncp) (.map (some Mc)) rv' (.slice co' ch.length cc') (f'-1) A D (A ||| 2 ^ k) (D ||| P[k].bar) row (di row (NS k)) ch w2)):=aaA B S M k ng n ncc ncp po co' ⟨nb,0,none⟩ pc cc' _ rv' (f'-1) A D P row (NS k) ch w2 lq.o.sb (fun w' hf=>⟨(zq.o w' (hx2.trans hf)).pl,by rw[OO];exact hf.cell n1 hnb,fun i hi=>hf.cell (n4 i hi) n3⟩) n3 hk2 hncp n2 zu (by omega) (HV.o.a HI.o) (HV.o.d HI.o) (HV.o.bar k zu) lq.o.rr lq.o.ir hSM lq.o.cc (by omega) (Nat.le_trans hB0 hx2.size) (HV.o.nsz k hk2) (by omega);have HI3:=ae (HV.o.step HI.o x k zu HX.o Ql.o HQ.o)
      clear n1 n2 n3 n4 hx2;go_wp2_with (go_at_call 37;refine CH.o.mono ?_);rintro e w3 ⟨b0,b1,b2,b3,bs,bl,g,cc3,rv3,rfl,hcell,hbx,k1,k2,k3,k4,k5,k6,k7⟩;have hy3:Dy B S M (.slice po P.length pc) (.slice (some ⟨nb,0,none⟩) n ncp) (.map (some Mc)) (di row (NS k)) (ch++[k]) (A ||| 2 ^ k) (D ||| P[k].bar) rv3 (.slice (some ⟨g,0,none⟩) (ch.length+1) cc3) (f'-1) w3:=⟨k1,lq.o.f0,lq.o.f1,k2,by rw[List.length_append];exact k3,k4⟩;have Ja:FD S M rv' (.slice co' ch.length cc') rv3 (.slice (some ⟨g,0,none⟩) (ch.length+1) cc3) w2 w3:=⟨k5,k6,fun g' e=>by cases e;exact k7⟩;have HF3:=ae (HF2.o.trans Ja);have HCL:=ae hcell;have lD:Hd (∀b,b=b0\/b=b1\/b=b2\/b=b3\/b=bs\/b=bl->¬b=S/\¬b=M/\¬Xr S M rv3 (.slice (some ⟨g,0,none⟩) (ch.length+1) cc3) b):=fun b hb=>by
       obtain⟨q1,q2,q3⟩:=hbx b hb;obtain⟨q4,q5⟩:=lq.o.lt;refine⟨by omega,by omega,?_⟩;rintro(h|h|h|h)
       ·omega
       ·omega
       ·exact q2 h
       ·exact q3 (Option.some.inj h)
      have C3:Hd (Calls prog 21 #[.pointer (some ⟨S,0,none⟩)] w3 (Qk (go k (f'-1).toNat) I B S M (.slice po P.length pc) (.slice (some ⟨nb,0,none⟩) n ncp) (.map (some Mc)) (di row (NS k)) (ch++[k]) (A ||| 2 ^ k) (D ||| P[k].bar) rv3 (.slice (some ⟨g,0,none⟩) (ch.length+1) cc3) w3)):=by
       rw[I4.o];exact IH.o d' (by omega) _ _ _ _ _ _ _ w3 (by have h9:=HD.o;rw[List.length_append,List.length_singleton];omega) HI3.o hy3 (wJ.o.trans (Ja.xb lq.o))
      clear k1 k2 k3 k4 k5 k6 k7 hcell hbx Ja hy3 CH;go_wp2_with (go_at_call 21;refine C3.o.mono ?_);rintro e w4 (⟨hr,rfl,h1⟩|⟨ch',hr,rfl,h1,row',A',D',rv4,cv4,f4,h2,h3,h4⟩|⟨fn,hr,rfl,rv4,cv4,h2,h3⟩)
      ·have HZ:Hd (R=.out):=by
        show R=.out;have:=HR2.o;rw[if_pos (by trivial),hr]at this;exact this.symm
       exact⟨rfl,Or.inl ⟨HZ.o,rfl,HF3.o.fx h1⟩⟩
      ·have HZ:Hd (R=.yes ch'):=by
        show R=.yes ch';have:=HR2.o;rw[if_pos (by trivial),hr]at this;exact this.symm
       have HE:=ae (And.intro (HF3.o.fx h1) (And.intro h2 (And.intro h3 h4)));clear h1 h2 h3 h4 hr;go_wp2;go_ret;exact Or.inr (Or.inl ⟨ch',HZ.o,rfl,HE.o.1,row',A',D',rv4,cv4,f4,HE.o.2⟩)
      ·have HZ:Hd (sW go (ft ch) (cx.drop (i+1)) ((fn:Int)).toNat=R):=by
        show _=R;have:=HR2.o;rw[if_pos (by trivial),hr]at this;exact this
       clear hr;obtain⟨co4,cc4,e4⟩:=qG h2.cc;rw[List.length_append,List.length_singleton]at e4;subst e4;obtain⟨m1,m2,m3,m4,m5,m6⟩:=HCL.o;obtain⟨t',ht'⟩:=Eh (NS k) row;have hpre:(di row (NS k)).take row.length=row:=by rw[ht',List.take_left' rfl]
       have hcap:ch.length+1<=cc4:=by
        have:=h2.cc;rw[List.length_append,List.length_singleton]at this;obtain⟨_,_,e,h5,-⟩:=EH this (i:=0) (by omega)
        cases e
        exact h5
       have CT:Hd (Calls prog 64 #[.pointer (some ⟨b0,0,none⟩),.pointer (some ⟨b1,0,none⟩),.pointer (some ⟨b2,0,none⟩),.pointer (some ⟨b3,0,none⟩)] w4 fun e w'=>e=.returned (.tuple #[])/\∃rv',Dy B S M (.slice po P.length pc) (.slice (some ⟨nb,0,none⟩) n ncp) (.map (some Mc)) row ch A D rv' (.slice co4 ch.length cc4) (fn:Int) w'/\FD S M (.slice (some ⟨gr,0,none⟩) row.length rc) (.slice co ch.length cc) rv' (.slice co4 ch.length cc4) w w'):=by
        refine(aag B S M b0 b1 b2 b3 bs bl row.length ch.length _ _ _ rv4 co4 cc4 (fn:Int) _ _ A D (di row (NS k)) ch w4 h2.sb h2.rr h2.ir (HV.o.nod HI3.o) (by rw[ht',List.length_append];omega) (HV.o.sz HI3.o) (by have:=HV.o.len HI3.o;omega) hcap (by omega) (h3.1.cell m1 (lD.o b0 (by simp)).2.2) (h3.1.cell m2 (lD.o b1 (by simp)).2.2) (h3.1.cell m3 (lD.o b2 (by simp)).2.2) (h3.1.cell m4 (lD.o b3 (by simp)).2.2) (h3.1.cell m5 (lD.o bs (by simp)).2.2) (h3.1.cell m6 (lD.o bl (by simp)).2.2) (fun b hb=>⟨(lD.o b hb).1,(lD.o b hb).2.1⟩) hSM).mono ?_;rintro e w5 ⟨rfl,rv5,q1,q2,q3,q4,q5⟩;exact⟨rfl,rv5,h2.back hSM hpre q1 q2 q3 q4,(HF3.o.trans h3).sm q4 q5 (by cases co4<;>rfl)⟩
       clear h2 h3 m1 m2 m3 m4 m5 m6 hpre hcap ht';go_wp2_with (go_at_call 64;refine CT.o.mono ?_);rintro e w5 ⟨rfl,rv5,q1,q2⟩;have HE:=ae (And.intro q1 q2);clear q1 q2;go_wp2;exact⟨⟨i+1,rv5,_,(fn:Int),by go_num,by omega,HZ.o,HE.o.1,HE.o.2⟩,by simp[intOf];omega⟩
   ·have HZ:Hd (R=.no f'.toNat):=by
     show R=_;rw[<-hrr,List.drop_eq_nil_of_le (by omega)];rfl
    have HYE:Hd (Dy B S M (.slice po P.length pc) (.slice (some ⟨nb,0,none⟩) n ncp) (.map (some Mc)) row ch A D rv' cv' (f'.toNat:Int) wo):=by
     rw[show((f'.toNat:Nat):Int)=f' by have:=hy.f0;omega];exact hy
    clear hy hfd hxb hrr;go_wp2;go_ret;exact Or.inr (Or.inr ⟨f'.toNat,HZ.o,rfl,rv',cv',HYE.o,I8.o⟩)
end Go.Proofs.YtapodndfpecglaaGreatDoor
