import Derived.Test.YtiinliaoojfjaaaGreatDoorF35
set_option linter.all false
set_option maxRecDepth 100000
set_option maxHeartbeats 0
open Go.Proofs.Tryz
namespace Go.Proofs.YtiinliaoojfjaaaGreatDoor
open Go.RowKit Go.Maps
theorem agb(oo:Option Addr)(oc:Nat)(O:List En)(L:List Re)(n:ByteArray)(w:World)(h:EnS w (.slice oo O.length oc) O)(hO:O.length<=1048576) :
  Calls prog 104 #[.slice oo O.length oc,.string n] w fun e w'=>∃z:Int,e=.returned (.int .i64 z)/\w.grownBy w' none/\((z=-1/\jK O L n=-1)\/∃(j:Nat) (hj:j<O.length),z=(j:Int)/\jK O L n=fB n O[j].ve L 0):=by
 have H1:=ae h;have iQ:=ae (Wj (O:=O) (L:=L) (name:=n));have HAT:=ae (fun j (hj:j<O.length)=>Wl (O:=O) (L:=L) (name:=n) (j:=j) hj);clear h;go_enter func104,ntmps104;go_wp2;go_loopw [5] (fun vi wr=>∃i:Nat,vi=.int .i64 i/\i<=O.length/\(∀k (hk:k<O.length),k<i->¬O[k].nm=n)/\w.grownBy wr none) (fun vi _=>O.length-(intOf vi).toNat)
 case atStart=>exact⟨0,rfl,Nat.zero_le _,fun k hk h=>absurd h (by omega),ai _ _⟩
 case round =>
  obtain⟨i,rfl,hi,hf,hg⟩:=hrel;have HF:=ae hf;have HG:=ae hg
  by_cases hlt:i<O.length
  ·obtain⟨a,rfl,hcv,hat⟩:=II (H1.o.grow hg) hlt;have e0:=(hat i hlt).1;obtain⟨y,hy⟩:=zN (O[i].nm);rw[hy]at e0;have HY:=ae hy;have gp:=ae hlt;clear hf hg hat hy
   by_cases hxy:y=n
   ·have q:=uA hxy;have HT:=ae (HAT.o i hlt (HY.o.trans hxy) (fun k hk=>HF.o k (by omega) hk));clear hxy;go_wp2;go_ret;exact⟨(i:Int),rfl,HG.o,Or.inr ⟨i,gp.o,rfl,HT.o⟩⟩
   ·have q:=pz hxy;have HT:Hd (∀k (hk:k<O.length),k<i+1->¬O[k].nm=n):=fun k hk hki=>by
     by_cases h:k=i
     ·subst h;rw[HY.o];exact hxy
     ·exact HF.o k hk (by omega)
    clear hxy;go_wp2;exact⟨⟨i+1,by go_num,by omega,HT.o,HG.o⟩,by simp[intOf];omega⟩
  ·have HT:Hd (jK O L n=-1):=iQ.o (fun x hx=>by
    obtain⟨k,hk,rfl⟩:=List.getElem_of_mem hx;exact hf k hk (by omega))
   clear hf hg;go_wp2;go_ret;exact⟨-1,rfl,HG.o,Or.inl ⟨rfl,HT.o⟩⟩
theorem Oe{w w':World}{a b c:Addr}{x y z:Value}(hg:w.grownBy w' none)(h:w.cell? a=some x/\w.cell? b=some y/\w.cell? c=some z):w'.cell? a=some x/\w'.cell? b=some y/\w'.cell? c=some z :=
 ⟨hg.cell h.1 (by simp),hg.cell h.2.1 (by simp),hg.cell h.2.2 (by simp)⟩
open Go.RowKit Go.Maps Go.Joins Go.ChangeMaps Go.MapKept
theorem agc{z:Int}{l:List Nat}{k:Nat}(h:k∈jw z l):k∈l:=by
 unfold jw at h;split at h
 ·rename_i hc
  rcases List.mem_cons.1 h with rfl|h
  ·exact hc.2
  ·exact List.mem_of_mem_erase h
 ·exact h
theorem Wx(z:Int)(l:List Nat):(jw z l).length=l.length:=by
 unfold jw;split
 ·rename_i hc;have:=List.length_pos_of_mem hc.2;rw[List.length_cons,List.length_erase_of_mem hc.2];omega
 ·rfl
theorem IsCand.nm{L:List Re}{O:List En}{x:ByteArray}{cs:List Nat}(h:IsCand L O x cs):∀k∈cs,k<L.length/\aF L k=x:=by
 obtain⟨E,h1,-,rfl⟩:=h;intro k hk;obtain⟨it,hit,rfl⟩:=List.mem_map.1 (agc hk);obtain⟨j,e1,e2,e3⟩:=FK x L 0 it (h1.subset hit);rw[Nat.zero_add]at e1;rw[e1,mX L j e2];exact⟨e2,e3⟩
theorem IsCand.len{L:List Re}{O:List En}{x:ByteArray}{cs:List Nat}(h:IsCand L O x cs):cs.length<=L.length:=by
 obtain⟨E,h1,-,rfl⟩:=h;rw[Wx,List.length_map,h1.length_eq];exact ww x L 0
theorem agd{L:List Re}{O:List En}{x:ByteArray}(h:∀k (hk:k<L.length),¬L[k].nm=x):IsCand L O x []:=by
 have h0:bn x L 0=[]:=by
  cases hi:bn x L 0 with
  | nil=>rfl
  | cons a r =>
   obtain⟨j,-,e2,e3⟩:=FK x L 0 a (by rw[hi];simp);exact absurd e3 (h j e2)
 refine⟨[],by rw[h0],List.Pairwise.nil,?_⟩;unfold jw;rw[if_neg (by simp)];rfl
structure NwX(L:List Re)(O:List En)(S M nb Mc:Nat)(pv:Value)(f:Int)(bar kn kh km:Nat)(w:World):Prop where
 sb:Sb w S pv (.slice (some ⟨nb,0,none⟩) L.length L.length) (.map (some Mc)) (.slice none 0 0) (.map (some M)) (.slice none 0 0) f 0 bar
 mm:w.heap[M]?=some (.map #[] 0)
 row:∃cur,w.heap[nb]?=some (.cells cur 67 (0,0))/\cur.size=L.length
 nm:∀k (hk:k<L.length),k<kn->∃ng nc,w.cell? ⟨nb,k,none⟩=some (.slice (some ⟨ng,0,none⟩) (bG L k).length nc)/\(bG L k).length<=nc/\ng<w.heap.size/\Far S M nb Mc ng/\∀t (ht:t<(bG L k).length),w.cell? ⟨ng,t,none⟩=some (.string (bG L k)[t])
 cd:∃D,w.ownsMap prog 9 jo Mc km D/\(∀x,∃v cs,jo v=some (D.atKey (kT x) vT,[])/\Gv S M nb Mc w v (cs.map fun(k:Nat)=>(k:Int))/\(Maps.has D (kT x)=true->IsCand L O x cs)/\(Maps.has D (kT x)=false->cs=[]))/\∀k (hk:k<L.length),k<kh->Maps.has D (kT L[k].nm)=true
section
variable {L:List Re} {O:List En} {S M nb Mc:Nat} {pv:Value} {f:Int} {bar kn kh km:Nat} {w w':World} {X:Nat->Prop}
theorem NwX.grow(h:NwX L O S M nb Mc pv f bar kn kh km w)(hg:w.grownBy w' none):NwX L O S M nb Mc pv f bar kn kh km w':=by
 have hf:Fx (fun _=>False) w w':=(Fx.refl _ w).gb hg (fun b e=>by cases e);obtain⟨cur,h1,h2⟩:=h.row;refine⟨h.sb.grow hg,(hf.block M (aC h.mm) (fun h=>h)).trans h.mm,⟨cur,(hf.block nb (aC h1) (fun h=>h)).trans h1,h2⟩,fun k hk hkn=>?_,?_⟩
 ·obtain⟨ng,nc,e1,e2,e3,e4,e5⟩:=h.nm k hk hkn;exact⟨ng,nc,hf.cell e1 (fun h=>h),e2,Nat.lt_of_lt_of_le e3 hf.size,e4,fun t ht=>hf.cell (e5 t ht) (fun h=>h)⟩
 ·obtain⟨D,d1,d2,d3⟩:=h.cd;refine⟨D,d1.kept hg (by simp),fun x=>?_,d3⟩;obtain⟨v,cs,e1,e2,e3⟩:=d2 x;exact⟨v,cs,e1,e2.fx hf (fun _ _ _ h=>h),e3⟩
theorem NwX.name(h:NwX L O S M nb Mc pv f bar kn kh km w)(hd:¬S=nb/\¬M=nb/\¬Mc=nb)(hk:kn<L.length){ng nc:Nat}(hnc:(bG L kn).length<=nc)(uC:ng<w.heap.size)(hF:Far S M nb Mc ng)(hc:∀t (ht:t<(bG L kn).length),w.cell? ⟨ng,t,none⟩=some (.string (bG L kn)[t])):NwX L O S M nb Mc pv f bar (kn+1) kh km (w.setCell ⟨nb,kn,none⟩ (.slice (some ⟨ng,0,none⟩) (bG L kn).length nc)):=by
 have hf:Fx (fun b=>b=nb) w (w.setCell ⟨nb,kn,none⟩ (.slice (some ⟨ng,0,none⟩) (bG L kn).length nc)):=(Fx.refl (fun b=>b=nb) w).set (Or.inl rfl) _ _;obtain⟨cur,h1,h2⟩:=h.row;have hb:=block_setCell (i:=kn) h1 (.slice (some ⟨ng,0,none⟩) (bG L kn).length nc);refine⟨h.sb.fx hf hd.1,(hf.block M (aC h.mm) hd.2.1).trans h.mm,⟨_,hb,by simpa using h2⟩,fun k hk hkn=>?_,?_⟩
 ·by_cases e:k=kn
  ·subst e;refine⟨ng,nc,?_,hnc,Nat.lt_of_lt_of_le uC hf.size,hF,fun t ht=>hf.cell (hc t ht) hF.2.2.1⟩;rw[ah hb,Array.getElem?_setIfInBounds_self,if_pos (by omega)]
  ·obtain⟨ng',nc',e1,e2,e3,e4,e5⟩:=h.nm k hk (by omega);refine⟨ng',nc',?_,e2,Nat.lt_of_lt_of_le e3 hf.size,e4,fun t ht=>hf.cell (e5 t ht) e4.2.2.1⟩;rw[ah h1]at e1;rw[ah hb,Array.getElem?_setIfInBounds_ne (fun h=>e h.symm)];exact e1
 ·obtain⟨D,⟨es,cl,m1,m2⟩,d2,d3⟩:=h.cd;refine⟨D,⟨es,cl,(hf.block Mc (aC m1) hd.2.2).trans m1,m2⟩,fun x=>?_,d3⟩;obtain⟨v,cs,e1,e2,e3⟩:=d2 x;exact⟨v,cs,e1,e2.fx hf (fun b _ hb=>hb.2.2.1),e3⟩
theorem NwX.cand{D:DataW Unit}{x:ByteArray}(h:NwX L O S M nb Mc pv f bar kn kh km w)(hd:¬S=Mc/\¬M=Mc/\¬nb=Mc)(hD:IsMap D)(d2:∀x,∃v cs,jo v=some (D.atKey (kT x) vT,[])/\Gv S M nb Mc w v (cs.map fun(k:Nat)=>(k:Int))/\(Maps.has D (kT x)=true->IsCand L O x cs)/\(Maps.has D (kT x)=false->cs=[]))(d3:∀k (hk:k<L.length),k<kh->Maps.has D (kT L[k].nm)=true)(hkh:kh<L.length)(hxk:L[kh].nm=x){v:Value}{cs:List Nat}{d:DataW Unit}(hv:jo v=some (d,[]))(hG:Gv S M nb Mc w v (cs.map fun(k:Nat)=>(k:Int)))(hcs:IsCand L O x cs)(hown:w'.ownsMap prog 9 jo Mc (km+1) (D.put (kT x) d))(hg:w.grownBy w' (some Mc)):NwX L O S M nb Mc pv f bar kn (kh+1) (km+1) w':=by
 have hf:Fx (fun b=>b=Mc) w w':=(Fx.refl _ w).gb hg (fun b e=>by cases e;exact Or.inl rfl);obtain⟨cur,h1,h2⟩:=h.row;refine⟨h.sb.fx hf hd.1,(hf.block M (aC h.mm) hd.2.1).trans h.mm,⟨cur,(hf.block nb (aC h1) hd.2.2).trans h1,h2⟩,fun k hk hkn=>?_,⟨_,hown,fun y=>?_,fun k hk hkh'=>?_⟩⟩
 ·obtain⟨ng,nc,e1,e2,e3,e4,e5⟩:=h.nm k hk hkn;exact⟨ng,nc,hf.cell e1 hd.2.2,e2,Nat.lt_of_lt_of_le e3 hf.size,e4,fun t ht=>hf.cell (e5 t ht) e4.2.2.2⟩
 ·by_cases e:y=x
  ·subst e;exact⟨v,cs,by rw[atKey_put_same hD (by trivial)];exact hv,hG.fx hf (fun b _ hb=>hb.2.2.2),fun _=>hcs,fun hh=>by rw[has_put_same hD (by trivial)]at hh;cases hh⟩
  ·obtain⟨v',cs',e1,e2,e3⟩:=d2 y;refine⟨v',cs',by rw[atKey_put_other (fun h=>e (Bl h))];exact e1,e2.fx hf (fun b _ hb=>hb.2.2.2),?_⟩;rw[has_put_other (fun h=>e (Bl h))];exact e3
 ·by_cases e:L[k].nm=x
  ·rw[e,has_put_same hD (by trivial)]
  ·rw[has_put_other (fun h=>e (Bl h))];refine d3 k hk ?_
   by_cases e2:k=kh
   ·subst e2;exact absurd hxk e
   ·omega
theorem NwX.seen{D:DataW Unit}(h:NwX L O S M nb Mc pv f bar kn kh km w)(d1:w.ownsMap prog 9 jo Mc km D)(d2:∀x,∃v cs,jo v=some (D.atKey (kT x) vT,[])/\Gv S M nb Mc w v (cs.map fun(k:Nat)=>(k:Int))/\(Maps.has D (kT x)=true->IsCand L O x cs)/\(Maps.has D (kT x)=false->cs=[]))(d3:∀k (hk:k<L.length),k<kh->Maps.has D (kT L[k].nm)=true)(hkh:kh<L.length)(hh:Maps.has D (kT L[kh].nm)=true):NwX L O S M nb Mc pv f bar kn (kh+1) km w :=
 ⟨h.sb,h.mm,h.row,h.nm,D,d1,d2,fun k hk hlt=>by
  by_cases e2:k=kh
  ·subst e2;exact hh
  ·exact d3 k hk (by omega)⟩
theorem NwX.ro{B:Nat}{P:List Pl}(h:NwX L O S M nb Mc pv f bar L.length L.length km w)(hB:B=w.heap.size)(hd:¬nb=S/\¬nb=M/\¬Mc=S/\¬Mc=M)(hL:L.length<=64)(hp:PlS w' pv P)(hf:Fx (Xb B S M) w w'):Nj L.length P (bG L) (dL L O) B S M nb Mc pv w':=by
 have far:∀b,b<w.heap.size->¬b=S->¬b=M->¬Xb B S M b:=fun b h1 h2 h3 h4=>by
  rcases h4 with h|h|h
  ·exact h2 h
  ·exact h3 h
  ·omega
 obtain⟨cur,r1,r2⟩:=h.row;refine⟨hp,fun k hk=>?_,?_⟩
 ·obtain⟨ng,nc,e1,e2,e3,e4,e5⟩:=h.nm k hk hk;have hn:=far ng e3 e4.1 e4.2.1;exact⟨ng,nc,hf.cell e1 (far nb (aC r1) hd.1 hd.2.1),e2,hn,fun t ht=>hf.cell (e5 t ht) hn⟩
 ·obtain⟨D,⟨es,cl,m1,m2⟩,d2,d3⟩:=h.cd;refine⟨km,D,⟨es,cl,(hf.block Mc (aC m1) (far Mc (aC m1) hd.2.2.1 hd.2.2.2)).trans m1,m2⟩,fun x=>?_⟩;obtain⟨v,cs,e1,e2,e3,e4⟩:=d2 x;have hc:IsCand L O x cs:=by
   cases hh:Maps.has D (kT x) with
   | true=>exact e3 hh
   | false =>
    rw[e4 hh];refine agd (fun k hk e=>?_);have:=d3 k hk hk;rw[e,hh]at this
    cases this
  rw[zG hc];exact⟨v,e1,fun w'' hf'=>(e2.fx (hf.trans hf') (fun b h1 h2=>far b h1 h2.1 h2.2.1)).is,Nat.le_trans hc.len hL,fun k hk=>(hc.nm k hk).1⟩
theorem age(hS:Sb w S pv (.slice (some ⟨nb,0,none⟩) L.length L.length) (.map (some Mc)) (.slice none 0 0) (.map (some M)) (.slice none 0 0) f 0 bar)(hM:w.heap[M]?=some (.map #[] 0))(hMc:w.heap[Mc]?=some (.map #[] 0))(hnb:w.heap[nb]?=some (.cells (Array.replicate L.length (Value.slice none 0 0)) 67 (0,0))):NwX L O S M nb Mc pv f bar 0 0 0 w :=
 ⟨hS,hM,⟨_,hnb,by simp⟩,fun k hk h=>by omega,.map [],⟨#[],0,hMc,⟨by simp,stamped_empty 0,by simp⟩,Nat.le_refl _,rfl⟩,fun x=>⟨.slice none 0 0,[],rfl,Or.inl ⟨rfl,rfl⟩,fun h=>(by cases h),fun _=>rfl⟩,fun k hk h=>by omega⟩
def Wy(L:List Re)(O:List En)(fu:Int)(pv:Value)(bar G:Nat)(W:World)(v:Value)(w:World):Prop:=∃(S M nb Mc:Nat) (f:Int),v=.pointer (some ⟨S,0,none⟩)/\(G<=S/\G<=M/\G<=nb/\G<=Mc)/\(¬S=M/\¬S=nb/\¬S=Mc/\¬M=nb/\¬M=Mc/\¬nb=Mc)/\(0<=f/\f<9223372036854775808/\f=max fu 0)/\NwX L O S M nb Mc pv f bar 0 0 0 w/\W.grownBy w none
theorem agf{W:World}{G:Nat}{a b c:Obj}(hG:W.heap.size=G)(h1:(nb=G/\a=.cells (Array.replicate L.length (Value.slice none 0 0)) 67 (0,0))\/(nb=G+1/\b=.cells (Array.replicate L.length (Value.slice none 0 0)) 67 (0,0))\/(nb=G+1+1/\c=.cells (Array.replicate L.length (Value.slice none 0 0)) 67 (0,0)))(h2:(Mc=G/\a=.map #[] 0)\/(Mc=G+1/\b=.map #[] 0)\/(Mc=G+1+1/\c=.map #[] 0))(h3:(M=G/\a=.map #[] 0)\/(M=G+1/\b=.map #[] 0)\/(M=G+1+1/\c=.map #[] 0))(hd:¬nb=Mc/\¬nb=M/\¬Mc=M){fu:Int}(hf:0<=f/\f<9223372036854775808/\f=max fu 0):Wy L O fu pv bar G W (.pointer (some ⟨G+1+1+1,0,none⟩)) ((((W.alloc a).alloc b).alloc c).alloc (.cells #[pv,.slice (some ⟨nb,0,none⟩) L.length L.length,.map (some Mc),.int .i64 f,.slice none 0 0,.map (some M),.slice none 0 0,.int .u64 0,.int .u64 (bar:Int)] 126)).drew:=by
 obtain⟨k1,k2,k3,k4,k5⟩:=afO W a b c (.cells #[pv,.slice (some ⟨nb,0,none⟩) L.length L.length,.map (some Mc),.int .i64 f,.slice none 0 0,.map (some M),.slice none 0 0,.int .u64 0,.int .u64 (bar:Int)] 126);rw[hG]at k1 k2 k3 k4;have get:∀(n:Nat) (x:Obj),(n=G/\a=x)\/(n=G+1/\b=x)\/(n=G+1+1/\c=x)->((((W.alloc a).alloc b).alloc c).alloc (.cells #[pv,.slice (some ⟨nb,0,none⟩) L.length L.length,.map (some Mc),.int .i64 f,.slice none 0 0,.map (some M),.slice none 0 0,.int .u64 0,.int .u64 (bar:Int)] 126)).heap[n]?=some x:=fun n x h=>by
  rcases h with⟨rfl,rfl⟩|⟨rfl,rfl⟩|⟨rfl,rfl⟩
  ·exact k1
  ·exact k2
  ·exact k3
 exact⟨G+1+1+1,M,nb,Mc,f,rfl,⟨by omega,by omega,by omega,by omega⟩,⟨by omega,by omega,by omega,by omega,by omega,by omega⟩,hf,age (w:=World.drew _) k4 (get M _ h3) (get Mc _ h2) (get nb _ h1),oW k5⟩
end
open Go.RowKit
def kC(x:It):Value:=.int .i64 (x.k:Int)
def yu(w:World)(base:Nat)(v:Value)(D:List It):Prop:=w.ownsRow base 3 1 v D.length (D.map kC)
theorem WB(P:List Value)(u v:Value)(Q:List Value):((P++u :: v :: Q).set (P.length+1) u).set P.length v=P++v :: u :: Q:=by
 rw[List.set_append_right _ _ (by omega),show P.length+1-P.length=1 by omega];rw[List.set_append_right _ _ (by omega),Nat.sub_self];rfl
theorem WC{w:World}{base g n cap:Nat}{A B:List It}{x:It}(h:w.ownsRow base 3 1 (.slice (some ⟨g,0,none⟩) n cap) n ((A++x :: B).map kC)):w.cell? ⟨g,A.length,none⟩=some (.int .i64 (x.k:Int)):=by
 have:=h.cells (g:=g) rfl A.length (kC x) (by simp);rw[V8]at this;exact this
theorem WE{base:Nat}(w:World):yu w base (.slice none 0 0) []:=World.ownsRow_nil _ _ _ _
def Src(L:List Re)(D:List It):Prop:=∀x∈D,∃h:x.k<L.length,aK (L[x.k]).ve=x.v
theorem agh(s:It):∀u∈[kC s],u.oneCell'=true:=by
 intro u hu;rw[List.mem_singleton.1 hu];rfl
theorem WF{p q r s:Addr}{x y:Int}{u v:ByteArray}{w w':World}(hg:w.grownBy w' none)(h:w.cell? p=some (.int .i64 x)/\w.cell? q=some (.int .i64 y)/\w.cell? r=some (.string u)/\w.cell? s=some (.string v)):w'.cell? p=some (.int .i64 x)/\w'.cell? q=some (.int .i64 y)/\w'.cell? r=some (.string u)/\w'.cell? s=some (.string v) :=
 ⟨hg.cell h.1 (by simp),hg.cell h.2.1 (by simp),hg.cell h.2.2.1 (by simp),hg.cell h.2.2.2 (by simp)⟩
theorem I4{B:Nat}{a w:World}(h:Below B a w){g:Nat}(hg:B<=g)(o:Nat)(v:Value):Below B a (w.setCell ⟨g,o,none⟩ v) :=
 ⟨h.os,h.tape,h.output,by simpa [World.setCell] using h.size,fun k hk=>by rw[<-h.block k hk];exact heap_setCell_other w _ k v (by simp;omega)⟩
def WG(M:List It)(w:World)(e:Ending)(w':World):Prop:=∃(v:Value) (D:List It),e=.returned v/\yu w' w.heap.size v D/\Below w.heap.size w w'/\D.Perm M/\D.Pairwise (fun a b=>0<=eF b a)
theorem agi(a:Addr)(cap:Nat)(L:List Re)(name:ByteArray)(w:World)(hL:L.length<=1048576)(hcap:L.length<=cap)(hV:∀x∈L,x.ve.size<2 ^ 62)(h:∀i (hi:i<L.length),ReAt w (a.add (i*4)) L[i]) :
  Calls prog 106 #[.slice (some a) L.length cap,.string name] w (WG (bn name L 0) w):=by
 have HA:Hd (∀i (hi:i<L.length),ReAt w (a.add (i*4)) L[i]):=h;have CI:Hd (∀x∈L,∀w,Calls prog 40 #[.string x.ve] w fun e w'=>e=.returned (.bool (okV x.ve))/\w.grownBy w' none):=fun x hx w=>Iw x.ve w (hV x hx)
 have CV:Hd (∀x∈L,∀w,Calls prog 73 #[.string x.ve] w fun e w'=>e=.returned (eY (aK x.ve))/\w.grownBy w' none):=fun x hx w=>Iy x.ve w (hV x hx)
 have CC:Hd (∀(s t:ByteArray) (w:World),Calls prog 25 #[eY (aK s),eY (aK t)] w fun e w'=>e=.returned (.int .i64 (aB (cutV (aK s)) (cutV (aK t))))/\w.grownBy w' none):=fun s t w=>by
  have p1:=sF s;have p2:=sF t;refine(yQ _ _ _ _ _ _ _ _ _ _ w (by show(aK s).pre.toArray.size<=_;simp;omega) (by show(aK t).pre.toArray.size<=_;simp;omega)).mono ?_;rintro e w' ⟨rfl,h⟩;refine⟨?_,⟨h.os,h.tape,h.output,h.size,fun k hk _=>h.block k hk⟩⟩;simp[cutV]
 obtain⟨R,hR⟩:=zN (bn name L 0);have HR:Hd ([]++bn name (L.drop 0) 0=R):=hR;have nY:Hd (R.length<=1048576):=by rw[<-hR];exact Nat.le_trans (ww name L 0) hL
 rw[hR];clear h hV hR;have hinfo:=FC;obtain⟨i0,hi0,hii⟩:=Option.map_eq_some_iff.1 hinfo;simp only[Prod.mk.injEq]at hii;obtain⟨hz0,hz1,hzb⟩:=hii;clear hinfo;go_enter func106,ntmps106;go_wp2;go_loopw [5,6] (fun vm vi wr=>∃(i:Nat) (P D:List It),vi=.int .i64 i/\i<=L.length/\P++bn name (L.drop i) i=R/\D.Perm P/\D.Pairwise (fun a b=>0<=eF b a)/\(∀x∈D,x.k<i)/\Src L D/\yu wr w.heap.size vm D/\Below w.heap.size w wr) (fun _ vi _=>L.length-(intOf vi).toNat)
 case atStart=>exact⟨0,[],[],rfl,Nat.zero_le _,HR.o,List.Perm.refl _,List.Pairwise.nil,by simp,by intro x hx;simp at hx,WE _,Below.refl _ _⟩
 case round =>
  obtain⟨i,P,D,rfl,hi,hf,hperm,hsort,hki,hsrc,hrow,hb⟩:=hrel;have HO:Hd (yu wr w.heap.size u5 D):=hrow;have HB:Hd (Below w.heap.size w wr):=hb;have HD:Hd (D.Perm P/\D.Pairwise (fun a b=>0<=eF b a)/\(∀x∈D,x.k<i)/\Src L D):=⟨hperm,hsort,hki,hsrc⟩;clear hperm hsort hki hsrc hrow
  rename World=>w0
  by_cases hlt:i<L.length
  ·obtain⟨x,hx⟩:=zN (L[i]);have hxm:x∈L:=by rw[<-hx];exact List.getElem_mem _
   have qc:ReAt w0 (a.add (i*4)) x:=by rw[<-hx];exact(HA.o i hlt).grow (gz hb)
   have HAT:Hd (ReAt w0 (a.add (i*4)) x):=qc;obtain⟨e0,e1,-,-⟩:=qc;have HF:Hd (P++(if(decide (x.nm=name) && okV x.ve)=true then⟨i,aK x.ve⟩ :: bn name (L.drop (i+1)) (i+1) else bn name (L.drop (i+1)) (i+1))=R):=by
    show _=_;rw[List.drop_eq_getElem_cons hlt,hx]at hf;exact hf
   have CX:Hd (∀w,Calls prog 40 #[.string x.ve] w fun e w'=>e=.returned (.bool (okV x.ve))/\w.grownBy w' none):=CI.o x hxm;have HX:Hd (L[i]=x):=hx;obtain⟨bk,hbk⟩:=zN (okV x.ve);rw[hbk]at CX HF;have hbs:=hb.size;clear hf hx hb hxm hbk;go_wp2_with (go_at_call 40;refine(CX.o _).mono ?_);rintro e w1 ⟨rfl,hg⟩;replace HO:Hd (yu w1 w.heap.size u5 D):=dV HO.o hg;replace HB:Hd (Below w.heap.size w w1):=hbelow HB.o hbs hg;replace HAT:Hd (ReAt w1 (a.add (i*4)) x):=HAT.o.grow hg;clear e0 e1 hg;obtain⟨e0,-,-,-⟩:=HAT.o
   by_cases hn:x.nm=name
   ·have q:=uA hn;have q2:(x.nm.toList != name.toList)=false:=by simp[bne,q]
    have HN:Hd (x.nm=name):=hn;clear hn
    cases bk with
    | true =>
     obtain⟨vv,hvv⟩:=zN (aK x.ve);have HVV:Hd (aK x.ve=vv):=hvv;rw[hvv]at HF;clear hvv;have HQ:Hd ((P++[⟨i,vv⟩])++bn name (L.drop (i+1)) (i+1)=R):=by
      have:=HF.o;rw[if_pos (by rw[HN.o];simp)]at this;show _=_;rw[List.append_assoc];exact this
     have oh:Hd (D.length+1<=1048576):=by
      have h1:=congrArg List.length HQ.o;have h2:=nY.o;have h3:=HD.o.1.length_eq;simp only[List.length_append,List.length_cons,List.length_nil]at h1;show _<=_;omega
     have hor:=HO.o;unfold yu at hor;go_wp2_with (first|(at_builtin;refine wpList_append_lies _ rfl _ _ 31 rfl w.heap.size 3 i0 (.int .i64 0) 1 8 underlying31 hi0 hz0 hz1 hzb rfl (by decide) _ _ _ rfl (hor.alloc _) _ 1 1 [kC ⟨i,vv⟩] rfl rfl (World.news_of_block (heap_alloc_new _ _)) (agh _) (by decide) (by unfold maxLen;have:=oh.o;omega) (by have:=oh.o;omega) (by have:=HB.o.size;simp;omega) _ rfl ?_;intro g cap1 w3 hown3 hgrow iI hlt3));have hgrow':(w1.alloc (.cells #[.int .i64 (i:Int)] 3)).grownBy w3 u5.ownBlock:=hgrow;have HB3:Hd (Below w.heap.size w w3):=(HB.o.alloc HB.o.size _).grown hgrow' (by have:=HB.o.size;simp;omega) (fun q hq=>(hor.lt q hq).1);have jl:Hd (w3.ownsRow w.heap.size 3 1 (.slice (some ⟨g,0,none⟩) (D.length+1) cap1) (D.length+1) ((D++[(⟨i,vv⟩:It)]).map kC)):=by
      show World.ownsRow _ _ _ _ _ _ _;rw[List.map_append];exact hown3
     have Og:Hd (D.length+1<=cap1):=by
      rcases hown3.2 with⟨h1,_⟩|⟨g',cap',cur,hv,_,_,h3,_⟩
      ·cases h1
      ·cases hv;exact h3
     have qY:Hd (i<L.length):=hlt;have hml:=oh.o;have hcp:=Og.o;clear hgrow hgrow' hown3 iI hlt3 hor e0 q q2;go_loopw [8] (fun vk wk=>∃A B:List It,vk=.int .i64 (A.length:Int)/\A++B=D/\(∀b∈B,0<aB (cutV vv) (cutV b.v))/\wk.ownsRow w.heap.size 3 1 (.slice (some ⟨g,0,none⟩) (D.length+1) cap1) (D.length+1) ((A++(⟨i,vv⟩:It) :: B).map kC)/\Below w.heap.size w wk) (fun vk _=>(intOf vk).toNat)
     case atStart=>exact⟨D,[],by have:=oh.o;simp;unfold wrap64;omega,by simp,by simp,jl.o,HB3.o⟩
     case round =>
      obtain⟨A,B,rfl,hAB,hBn,hrow,hbk⟩:=hrel;have HRW:Hd (wr.ownsRow w.heap.size 3 1 (.slice (some ⟨g,0,none⟩) (D.length+1) cap1) (D.length+1) ((A++(⟨i,vv⟩:It) :: B).map kC)):=hrow;have pI:Hd (Below w.heap.size w wr):=hbk;have oz:Hd (∀b∈B,0<aB (cutV vv) (cutV b.v)):=hBn;have HAB:Hd (A++B=D):=hAB;have HLEN:Hd ((A++(⟨i,vv⟩:It) :: B).length=D.length+1):=by
       have:=congrArg List.length hAB;simp only[List.length_append,List.length_cons]at this ⊢;show _=_;omega
      have kY:Hd ((∀A0 y,A=A0++[y]->aB (cutV vv) (cutV y.v)<=0)->(A++(⟨i,vv⟩:It) :: B).Perm (P++[(⟨i,vv⟩:It)])/\(A++(⟨i,vv⟩:It) :: B).Pairwise (fun a b=>0<=eF b a)/\(∀x∈A++(⟨i,vv⟩:It) :: B,x.k<i+1)/\Src L (A++(⟨i,vv⟩:It) :: B)):=fun hlast=>by
       have hmem:∀z∈A++(⟨i,vv⟩:It) :: B,z=⟨i,vv⟩\/z∈D:=fun z hz=>by
        rw[<-HAB.o]
        rcases List.mem_append.1 hz with hz|hz
        ·exact Or.inr (List.mem_append.2 (Or.inl hz))
        ·rcases List.mem_cons.1 hz with hz|hz
         ·exact Or.inl hz
         ·exact Or.inr (List.mem_append.2 (Or.inr hz))
       refine⟨?_,?_,?_,?_⟩
       ·have h1:(A++(⟨i,vv⟩:It) :: B).Perm (⟨i,vv⟩ :: (A++B)):=List.perm_middle;rw[HAB.o]at h1;exact h1.trans ((HD.o.1.cons (⟨i,vv⟩:It)).trans (List.perm_append_singleton (⟨i,vv⟩:It) P).symm)
       ·refine afH (by rw[HAB.o];exact HD.o.2.1) oz.o (fun A0 y e=>⟨hlast A0 y e,?_⟩);exact HD.o.2.2.1 y (by rw[<-HAB.o,e];simp)
       ·intro z hz
        rcases hmem z hz with rfl|hz
        ·exact Nat.lt_succ_self _
        ·have:=HD.o.2.2.1 z hz;omega
       ·intro z hz
        rcases hmem z hz with rfl|hz
        ·exact⟨qY.o,by rw[HX.o];exact HVV.o⟩
        ·exact HD.o.2.2.2 z hz
      clear hAB hBn hrow hbk
      rcases List.eq_nil_or_concat A with rfl|⟨A0,y,rfl⟩
      ·have sU:=kY.o (fun A0 y e=>by simp at e);have oC:Hd (([]++(⟨i,vv⟩:It) :: B).Perm (P++[(⟨i,vv⟩:It)])/\([]++(⟨i,vv⟩:It) :: B).Pairwise (fun a b=>0<=eF b a)/\(∀x∈[]++(⟨i,vv⟩:It) :: B,x.k<i+1)/\Src L ([]++(⟨i,vv⟩:It) :: B)):=sU;clear sU kY;have k0:(([]:List It).length:Int)=0:=rfl;rw[k0];clear k0;have hdec:decide ((0:Int)<0)=false:=by decide
       go_wp2;go_quiet (fail);go_wp2;go_roundw
       case rel=>exact⟨i+1,P++[⟨i,vv⟩],[]++(⟨i,vv⟩:It) :: B,by go_num,by omega,HQ.o,oC.o.1,oC.o.2.1,oC.o.2.2.1,oC.o.2.2.2,by unfold yu;rw[HLEN.o];exact dV HRW.o (aH (ai _ none) _),below_drewN pI.o _⟩
       case measure=>simp[intOf];omega
      ·simp only[List.concat_eq_append]at HRW HAB HLEN kY ⊢;obtain⟨hyk,hyv⟩:=HD.o.2.2.2 y (by rw[<-HAB.o];simp);obtain⟨ly,I5⟩:=zN (L[y.k]);rw[I5]at hyv;have hym:ly∈L:=by rw[<-I5];exact List.getElem_mem _
       have hxm:x∈L:=by rw[<-HX.o];exact List.getElem_mem _
       have V1:Hd (∀w,Calls prog 73 #[.string x.ve] w fun e w'=>e=.returned (eY vv)/\w.grownBy w' none):=fun w=>by rw[<-HVV.o];exact CV.o x hxm w
       have V2:Hd (∀w,Calls prog 73 #[.string ly.ve] w fun e w'=>e=.returned (eY y.v)/\w.grownBy w' none):=fun w=>by rw[<-hyv];exact CV.o ly hym w
       have V3:Hd (∀w,Calls prog 25 #[eY vv,eY y.v] w fun e w'=>e=.returned (.int .i64 (aB (cutV vv) (cutV y.v)))/\w.grownBy w' none):=fun w=>by rw[<-HVV.o,<-hyv];exact CC.o _ _ w
       have hgw:=gz pI.o;have c1:wr.cell? ⟨(a.add (i*4)).block,(a.add (i*4)).off+1,none⟩=some (.string x.ve):=by
        have:=(HA.o i qY.o).grow hgw;rw[HX.o]at this;exact this.2.1
       have c2:wr.cell? ⟨(a.add (y.k*4)).block,(a.add (y.k*4)).off+1,none⟩=some (.string ly.ve):=by
        have:=(HA.o y.k hyk).grow hgw;rw[I5]at this;exact this.2.1
       have d1:wr.cell? ⟨g,A0.length+1,none⟩=some (.int .i64 (i:Int)):=by
        have:=WC HRW.o;simpa using this
       have d2:wr.cell? ⟨g,A0.length,none⟩=some (.int .i64 (y.k:Int)):=by
        have h1:=HRW.o;rw[List.append_assoc]at h1;exact WC (A:=A0) (x:=y) (B:=(⟨i,vv⟩:It) :: B) h1
       obtain⟨r,hr⟩:=zN (aB (cutV vv) (cutV y.v));have HRR:Hd (aB (cutV vv) (cutV y.v)=r):=hr;rw[hr]at V3;obtain⟨Vx,WH⟩:=zN (eY vv);obtain⟨Vy,WI⟩:=zN (eY y.v);rw[WH]at V1 V3;rw[WI]at V2 V3;obtain⟨n,hn⟩:=zN (A0.length);have hnD:n+1<=D.length:=by
        have:=congrArg List.length HAB.o;simp only[List.length_append,List.length_cons,List.length_nil]at this;omega
       have kl:(((A0++[y]).length:Nat):Int)=(n:Int)+1:=by simp[hn]
       rw[kl];rw[hn]at d1 d2;have Dp:Hd (A0.length=n):=hn;obtain⟨yk,Oh⟩:=zN y.k;rw[Oh]at d2 c2 hyk;have HYK:Hd (y.k=yk):=Oh;clear hgw hr WH WI hn kl Oh hyv I5 hym hxm;have t1:((n:Int)+1).toNat=n+1:=by omega
       have t3:(0:Int)<(n:Int)+1:=by omega
       have t4:decide ((0:Int)<(n:Int)+1)=true:=decide_eq_true t3;have t6:(n:Int)+1<(D.length:Int)+1:=by omega
       have t7:(0:Int)<=(n:Int)+1:=by omega
       have t8:(n:Int)<(D.length:Int)+1:=by omega
       have tE:IntKind.i64.wrap (n:Int)=(n:Int):=by
        rw[IntKind.wrap_i64];omega
       have tD:(0:Int)<=(n:Int):=by omega
       have t9:n+1<D.length+1:=by omega
       have t10:n<D.length+1:=by omega
       by_cases hr0:0<r
       ·have t5:decide (0<r)=true:=decide_eq_true hr0;go_wp2
        go_region_held3 (fun w'=>w'.cell? ⟨g,n+1,none⟩=some (.int .i64 (i:Int))/\w'.cell? ⟨g,n,none⟩=some (.int .i64 (yk:Int))/\w'.cell? ⟨(a.add (i*4)).block,(a.add (i*4)).off+1,none⟩=some (.string x.ve)/\w'.cell? ⟨(a.add (yk*4)).block,(a.add (yk*4)).off+1,none⟩=some (.string ly.ve)) ((first|exact WF (by assumption) (by assumption)|go_keep)) (first|(go_at_call_of 73 x.ve;refine(V1.o _).mono ?_;rintro e v1 ⟨rfl,hg1⟩)|(go_at_call_of 73 ly.ve;refine(V2.o _).mono ?_;rintro e v2 ⟨rfl,hg2⟩)|(go_at_call 25;refine(V3.o _).mono ?_;rintro e v3 ⟨rfl,hg3⟩))
        have hgv:wr.grownBy v3 none:=ag (dF hg1) (ag hg2 hg3);have HR3:Hd (v3.ownsRow w.heap.size 3 1 (.slice (some ⟨g,0,none⟩) (D.length+1) cap1) (D.length+1) (((A0++[y])++(⟨i,vv⟩:It) :: B).map kC)):=dV HRW.o hgv;have WJ:Hd (w.heap.size<=wr.heap.size):=pI.o.size;have HB4:Hd (Below w.heap.size w v3):=hbelow pI.o pI.o.size hgv;have f1:=hgv.cell d1 (by simp);have f2:=hgv.cell d2 (by simp);have ff:=NR HR3.o;clear hg1 hg2 hg3 hgv c1 c2 d1 d2;go_wp2;have hgb:=(HR3.o.lt g rfl).1;refine⟨⟨A0,y :: B,by rw[Dp.o],by have:=HAB.o;simpa using this,fun b hb=>?_,?_,I4 (I4 HB4.o hgb _ _) hgb _ _⟩,by simp[intOf]⟩
        ·rcases List.mem_cons.1 hb with rfl|hb
         ·rw[HRR.o];exact hr0
         ·exact oz.o b hb
        ·have h1:=FH (FH HR3.o (n+1) (.int .i64 (yk:Int)) (by omega)) n (.int .i64 (i:Int)) (by omega);have e1:((A0++[y])++(⟨i,vv⟩:It) :: B).map kC=A0.map kC++kC y :: kC ⟨i,vv⟩ :: B.map kC:=by simp
         have e2:(A0++(⟨i,vv⟩:It) :: y :: B).map kC=A0.map kC++kC ⟨i,vv⟩ :: kC y :: B.map kC:=by simp
         have e3:Value.int .i64 (yk:Int)=kC y:=by unfold kC;rw[HYK.o]
         have e4:n=(A0.map kC).length:=by rw[List.length_map];exact Dp.o.symm
         have e5:Value.int .i64 (i:Int)=kC ⟨i,vv⟩:=rfl;rw[e1,e3,e5,e4,WB,<-e2,<-e4]at h1;rw[e3,e5];exact h1
       ·have t5:decide (0<r)=false:=decide_eq_false hr0;have sU:=kY.o (fun A1 y1 e=>by
         have e1:=List.append_inj' e rfl;have e2:y=y1:=by simpa using e1.2
         rw[<-e2,HRR.o];omega)
        have oC:Hd (((A0++[y])++(⟨i,vv⟩:It) :: B).Perm (P++[(⟨i,vv⟩:It)])/\((A0++[y])++(⟨i,vv⟩:It) :: B).Pairwise (fun a b=>0<=eF b a)/\(∀x∈(A0++[y])++(⟨i,vv⟩:It) :: B,x.k<i+1)/\Src L ((A0++[y])++(⟨i,vv⟩:It) :: B)):=sU;clear sU kY;go_wp2
        go_region_held3 (fun w'=>w'.cell? ⟨g,n+1,none⟩=some (.int .i64 (i:Int))/\w'.cell? ⟨g,n,none⟩=some (.int .i64 (yk:Int))/\w'.cell? ⟨(a.add (i*4)).block,(a.add (i*4)).off+1,none⟩=some (.string x.ve)/\w'.cell? ⟨(a.add (yk*4)).block,(a.add (yk*4)).off+1,none⟩=some (.string ly.ve)) ((first|exact WF (by assumption) (by assumption)|go_keep)) (first|(go_at_call_of 73 x.ve;refine(V1.o _).mono ?_;rintro e v1 ⟨rfl,hg1⟩)|(go_at_call_of 73 ly.ve;refine(V2.o _).mono ?_;rintro e v2 ⟨rfl,hg2⟩)|(go_at_call 25;refine(V3.o _).mono ?_;rintro e v3 ⟨rfl,hg3⟩))
        have hgv:wr.grownBy v3 none:=ag (dF hg1) (ag hg2 hg3);have HR3:Hd (v3.ownsRow w.heap.size 3 1 (.slice (some ⟨g,0,none⟩) (D.length+1) cap1) (D.length+1) (((A0++[y])++(⟨i,vv⟩:It) :: B).map kC)):=dV HRW.o hgv;have HB4:Hd (Below w.heap.size w v3):=hbelow pI.o pI.o.size hgv;clear hg1 hg2 hg3 hgv c1 c2 d1 d2;go_wp2;go_roundw
        case rel=>exact⟨i+1,P++[⟨i,vv⟩],(A0++[y])++(⟨i,vv⟩:It) :: B,by go_num,by omega,HQ.o,oC.o.1,oC.o.2.1,oC.o.2.2.1,oC.o.2.2.2,by unfold yu;rw[HLEN.o];exact HR3.o,HB4.o⟩
        case measure=>simp[intOf];omega
    | false =>
     have HQ:Hd (P++bn name (L.drop (i+1)) (i+1)=R):=by
      have:=HF.o;rw[if_neg (by simp)]at this;exact this
     go_wp2;go_roundw
     case rel=>exact⟨i+1,P,D,by go_num,by omega,HQ.o,HD.o.1,HD.o.2.1,fun x hx=>by have:=HD.o.2.2.1 x hx;omega,HD.o.2.2.2,HO.o,HB.o⟩
     case measure=>simp[intOf];omega
   ·have q:=pz hn;have q2:(x.nm.toList != name.toList)=true:=by simp[bne,q]
    have HQ:Hd (P++bn name (L.drop (i+1)) (i+1)=R):=by
     have:=HF.o;rw[if_neg (by simp[hn])]at this;exact this
    clear hn;go_wp2;go_roundw
    case rel=>exact⟨i+1,P,D,by go_num,by omega,HQ.o,HD.o.1,HD.o.2.1,fun x hx=>by have:=HD.o.2.2.1 x hx;omega,HD.o.2.2.2,HO.o,HB.o⟩
    case measure=>simp[intOf];omega
  ·have hil:i=L.length:=by omega
   have HQ:Hd (P=R):=by
    show _=_;rw[hil,List.drop_length]at hf;simpa [bn] using hf
   clear hf hil hb;go_wp2;refine bodyPost_ret (results_tmp (t:=4) rfl _ _ _) rfl ⟨u5,D,rfl,HO.o,HB.o,by rw[<-HQ.o];exact HD.o.1,HD.o.2.1⟩
open Go.RowKit
theorem agj(sl:Value)(L:List Re)(name:ByteArray)(w:World)(h:ReS w sl L)(hL:L.length<=1048576)(hV:∀x∈L,x.ve.size<2 ^ 62) :
  Calls prog 106 #[sl,.string name] w (WG (bn name L 0) w):=by
 rcases h with⟨rfl,rfl⟩|⟨a,cap,rfl,h2,h3⟩
 ·go_enter func106,ntmps106;go_wp2;go_loopw [5,6] (fun vm vi wr=>vi=.int .i64 0/\vm=.slice none 0 0/\Below w.heap.size w wr) (fun _ vi _=>0)
  case atStart=>exact⟨rfl,rfl,Below.refl _ _⟩
  case round =>
   obtain⟨rfl,rfl,hb⟩:=hrel;have HB:Hd (Below w.heap.size w wr):=hb;clear hb;go_wp2;refine bodyPost_ret (results_tmp (t:=4) rfl _ _ _) rfl ⟨_,[],rfl,WE _,HB.o,List.Perm.refl _,List.Pairwise.nil⟩
 ·exact agi a cap L name w hL h2 hV h3
theorem agk(sl:Value)(L:List Re)(name v:ByteArray)(w:World)(h:ReS w sl L)(hL:L.length<=1048576)(hV:∀x∈L,x.ve.size<2 ^ 62)(hv:v.size<2 ^ 62) :
  Calls prog 105 #[sl,.string name,.string v] w fun e w'=>e=.returned (.int .i64 (fB name v L 0))/\w.grownBy w' none:=by
 rcases h with⟨rfl,rfl⟩|⟨a,cap,rfl,h2,h3⟩
 ·have e:fB name v [] 0=-1:=rfl;rw[e];go_enter func105,ntmps105;go_wp2;go_loopw [7] (fun vi wr=>vi=.int .i64 0/\w.grownBy wr none) (fun vi _=>0)
  case atStart=>exact⟨rfl,ai _ _⟩
  case round =>
   obtain⟨rfl,hb⟩:=hrel;have HB:Hd (w.grownBy wr none):=hb;clear hb;go_wp2;go_ret;exact⟨rfl,HB.o⟩
 ·exact ady a cap L name v w hL h2 hV hv h3
def NS(w:World)(v:Value)(K:List Nat):Prop:=(v=.slice none 0 0/\K=[])\/∃a cap,v=.slice (some a) K.length cap/\K.length<=cap/\∀j (h:j<K.length),w.cell? (a.add j)=some (.int .i64 (K[j]:Int))
theorem NS.grow{w w':World}{v:Value}{K:List Nat}(h:NS w v K)(hg:w.grownBy w' none):NS w' v K:=by
 rcases h with h|⟨a,cap,h1,h2,h3⟩
 ·exact Or.inl h
 ·exact Or.inr ⟨a,cap,h1,h2,fun i hi=>hg.cell (h3 i hi) (by simp)⟩
open Go.RowKit
theorem agl{a b:ByteArray}(h:cT a b<0):Op.bytesLess a.toList b.toList=true:=by
 rw[Lib.toList_data,Lib.toList_data]
 cases h1:Op.bytesLess a.data.toList b.data.toList with
 | true=>rfl
 | false =>
  exfalso;unfold cT at h
  cases h2:(a.data.toList == b.data.toList) with
  | true=>rw[(xx _ _).2.2 h2]at h;cases h
  | false=>rw[(xx _ _).2.1 h1 h2]at h;cases h
theorem agm{a b:ByteArray}(h:¬cT a b<0):Op.bytesLess a.toList b.toList=false:=by
 cases h1:Op.bytesLess a.toList b.toList with
 | false=>rfl
 | true=>exact absurd (show cT a b<0 by unfold cT;rw[Ei h1];decide) h
theorem agn{a b:ByteArray}(h:¬cT a b<0):cT b a<=0:=by
 have:=uB.anti a b;omega
theorem agp{a b c:ByteArray}(h1:cT a b<=0)(h2:cT b c<=0):cT a c<=0:=(uB.trans a b c h1 h2).1
def sV(S:List ByteArray):Prop:=S.Pairwise (fun a b=>cT a b<=0)
theorem agq{A B:List ByteArray}{x:ByteArray}(h:sV (A++B))(hb:∀b∈B,cT x b<0)(hl:∀A0 y,A=A0++[y]->cT y x<=0):sV (A++x :: B):=by
 unfold sV at *;rw[List.pairwise_append]at h ⊢;obtain⟨h1,h2,h3⟩:=h;have hax:∀a∈A,cT a x<=0:=by
  rcases List.eq_nil_or_concat A with rfl|⟨A0,y,rfl⟩
  ·intro a ha;cases ha
  ·rw[List.concat_eq_append]at *;have hy:=hl A0 y rfl;intro a ha
   rcases List.mem_append.1 ha with ha|ha
   ·rw[List.pairwise_append]at h1;exact agp (h1.2.2 a ha y (by simp)) hy
   ·simp at ha;rw[ha];exact hy
 refine⟨h1,List.pairwise_cons.2 ⟨fun b hb2=>Int.le_of_lt (hb b hb2),h2⟩,fun a ha b hb2=>?_⟩
 rcases List.mem_cons.1 hb2 with rfl|hb2
 ·exact hax a ha
 ·exact h3 a ha b hb2
def WL(L:List ByteArray)(w:World)(e:Ending)(w':World):Prop:=∃(v:Value) (S:List ByteArray),e=.returned v/\w'.ownsRow w.heap.size 9 1 v S.length (S.map Value.string)/\S.Perm L/\sV S/\Below w.heap.size w w'
theorem WM{w:World}{base g n cap:Nat}{A B:List ByteArray}{x:ByteArray}(h:w.ownsRow base 9 1 (.slice (some ⟨g,0,none⟩) n cap) n ((A++x :: B).map Value.string)):w.cell? ⟨g,A.length,none⟩=some (.string x):=by
 have:=h.cells (g:=g) rfl A.length (.string x) (by simp);rw[V8]at this;exact this
theorem sorted_at(a:Addr)(c:Nat)(L:List ByteArray)(w:World)(hL:L.length<=1048576)(hpos:0<L.length)(h:∀j (hj:j<L.length),w.cell? (a.add j)=some (.string L[j])) :
  Calls prog 68 #[.slice (some a) L.length c] w (WL L w):=by
 have rV:=LW;obtain⟨j0,hj0,hjj⟩:=Option.map_eq_some_iff.1 rV;simp only[Prod.mk.injEq]at hjj;obtain⟨hy0,hy1,hyb⟩:=hjj;clear rV;have hnews:∀j u,(L.map Value.string)[j]?=some u->w.cell? (a.add j)=some u:=fun j u hu=>by
  obtain⟨hj,rfl⟩:=List.getElem?_eq_some_iff.1 hu;rw[List.getElem_map];exact h j (by simpa using hj)
 obtain⟨n,hn⟩:=zN (L.length);have HN:Hd (L.length=n):=hn;rw[hn]at hL hpos ⊢;clear h;go_enter func68,ntmps68;go_wp2_with (first|(at_builtin;refine wpList_append_lies _ rfl _ _ 67 rfl w.heap.size 9 j0 _ 1 16 underlying67 hj0 hy0 hy1 hyb rfl (by decide) (.slice none 0 0) 0 [] rfl (World.ownsRow_nil _ _ _ _) a n c (L.map Value.string) rfl (by rw[List.length_map,hn,Nat.mul_one]) hnews (EW _) hpos (by unfold maxLen;omega) (by omega) (Nat.le_refl _) _ rfl ?_;intro g cap1 w1 hown1 hgrow1 iD hlt1));simp only[Nat.zero_add]at hown1 ⊢;have dB:Hd (w1.ownsRow w.heap.size 9 1 (.slice (some ⟨g,0,none⟩) n cap1) n (L.map Value.string)):=hown1;have HB1:Hd (Below w.heap.size w w1):=⟨hgrow1.os,hgrow1.tape,hgrow1.output,hgrow1.size,fun k hk=>hgrow1.block k hk (by simp[Value.ownBlock])⟩;have Og:Hd (n<=cap1):=by
  rcases hown1.2 with⟨h1,_⟩|⟨g',cap',cur,hv,_,_,h3,_⟩
  ·cases h1
  ·cases hv;exact h3
 clear hown1 hgrow1 iD hlt1 hnews hn;have hcp:=Og.o;go_wp2;go_loopw [4] (fun vi wr=>∃(i:Nat) (P:List ByteArray),vi=.int .i64 i/\1<=i/\i<=n/\P.Perm (L.take i)/\sV P/\wr.ownsRow w.heap.size 9 1 (.slice (some ⟨g,0,none⟩) n cap1) n ((P++L.drop i).map Value.string)/\Below w.heap.size w wr) (fun vi _=>n-(intOf vi).toNat)
 case atStart=>exact⟨1,L.take 1,rfl,Nat.le_refl _,hpos,List.Perm.refl _,by
  unfold sV
  match L,HN.o with
  | [],h=>exact List.Pairwise.nil
  | x :: r,h=>simp,by rw[List.take_append_drop];exact dB.o,HB1.o⟩
 case round =>
  obtain⟨i,P,rfl,hi1,hi,hp,hs,hown,hb⟩:=hrel;have HP:Hd (P.Perm (L.take i)/\sV P):=⟨hp,hs⟩;have HB:Hd (Below w.heap.size w wr):=hb
  by_cases hlt:i<n
  ·have hlt':i<L.length:=by rw[HN.o];exact hlt
   obtain⟨x,hx⟩:=zN (L[i]);have iT:Hd (P.length=i):=by
    show _=_;rw[hp.length_eq,List.length_take];omega
   have iU:Hd (L.take (i+1)=L.take i++[x]):=by
    show _=_;rw[List.take_succ_eq_append_getElem hlt',hx]
   obtain⟨Z,hZ⟩:=zN (L.drop (i+1));have HZ:Hd (L.drop (i+1)=Z):=hZ;have HR0:Hd (wr.ownsRow w.heap.size 9 1 (.slice (some ⟨g,0,none⟩) n cap1) n ((P++x :: ([]++Z)).map Value.string)):=by
    show World.ownsRow _ _ _ _ _ _ _;rw[List.nil_append,<-hZ,<-hx,<-List.drop_eq_getElem_cons hlt'];exact hown
   clear hp hs hown hb hx hZ;go_wp2;go_loopw [5] (fun vk wk=>∃A B:List ByteArray,vk=.int .i64 (A.length:Int)/\A++B=P/\(∀b∈B,cT x b<0)/\wk.ownsRow w.heap.size 9 1 (.slice (some ⟨g,0,none⟩) n cap1) n ((A++x :: (B++Z)).map Value.string)/\Below w.heap.size w wk) (fun vk _=>(intOf vk).toNat)
   case atStart=>exact⟨P,[],by rw[iT.o],by simp,by simp,HR0.o,HB.o⟩
   case round =>
    obtain⟨A,B,rfl,hAB,hBn,hrow,hbk⟩:=hrel;have HRW:Hd (wr.ownsRow w.heap.size 9 1 (.slice (some ⟨g,0,none⟩) n cap1) n ((A++x :: (B++Z)).map Value.string)):=hrow;have pI:Hd (Below w.heap.size w wr):=hbk;have oz:Hd (∀b∈B,cT x b<0):=hBn;have HAB:Hd (A++B=P):=hAB;have kY:Hd ((∀A0 y,A=A0++[y]->cT y x<=0)->(A++x :: B).Perm (L.take (i+1))/\sV (A++x :: B)):=fun hlast=>by
     refine⟨?_,agq (by rw[HAB.o];exact HP.o.2) oz.o hlast⟩;have h1:(A++x :: B).Perm (x :: (A++B)):=List.perm_middle;rw[HAB.o]at h1;rw[iU.o];exact h1.trans ((HP.o.1.cons x).trans (List.perm_append_singleton x _).symm)
    have FQ:Hd ((A++x :: (B++Z)).map Value.string=((A++x :: B)++L.drop (i+1)).map Value.string):=by
     show _=_;rw[HZ.o];simp
    clear hAB hBn hrow hbk
    rcases List.eq_nil_or_concat A with rfl|⟨A0,y,rfl⟩
    ·have sU:=kY.o (fun A0 y e=>by simp at e);have oC:Hd (([]++x :: B).Perm (L.take (i+1))/\sV ([]++x :: B)):=sU;clear sU kY;have k0:(([]:List ByteArray).length:Int)=0:=rfl;rw[k0];clear k0;have hdec:decide ((0:Int)<0)=false:=by decide
     go_wp2;go_quiet (fail);go_wp2;go_roundw
     case rel=>exact⟨i+1,[]++x :: B,by go_num,by omega,by omega,oC.o.1,oC.o.2,by rw[<-FQ.o];exact dV HRW.o (aH (ai _ none) _),below_drewN pI.o _⟩
     case measure=>simp[intOf];omega
    ·simp only[List.concat_eq_append]at HRW HAB kY FQ ⊢;have d1:wr.cell? ⟨g,A0.length+1,none⟩=some (.string x):=by
      have:=WM HRW.o;simpa using this
     have d2:wr.cell? ⟨g,A0.length,none⟩=some (.string y):=by
      have h1:=HRW.o;rw[List.append_assoc]at h1;exact WM (A:=A0) (x:=y) (B:=x :: (B++Z)) h1
     have bW:Hd (A0.length+1<=i):=by
      have h1:=congrArg List.length HAB.o;have h2:=iT.o;simp only[List.length_append,List.length_cons,List.length_nil]at h1;show _<=_;omega
     obtain⟨m,hm⟩:=zN (A0.length);have FT:=bW.o;have kl:(((A0++[y]).length:Nat):Int)=(m:Int)+1:=by simp[hm]
     rw[kl];rw[hm]at d1 d2 FT;have Dp:Hd (A0.length=m):=hm;clear hm kl;have t1:((m:Int)+1).toNat=m+1:=by omega
     have t3:(0:Int)<(m:Int)+1:=by omega
     have t4:decide ((0:Int)<(m:Int)+1)=true:=decide_eq_true t3;have t6:(m:Int)+1<(n:Int):=by omega
     have t7:(0:Int)<=(m:Int)+1:=by omega
     have t8:(m:Int)<(n:Int):=by omega
     have tE:IntKind.i64.wrap (m:Int)=(m:Int):=by
      rw[IntKind.wrap_i64];omega
     have tD:(0:Int)<=(m:Int):=by omega
     have t9:m+1<n:=by omega
     have t10:m<n:=by omega
     by_cases hr0:cT x y<0
     ·have t5:=agl hr0;have ff:=NR HRW.o;go_wp2;go_quiet (fail);go_wp2;have hgb:=(HRW.o.lt g rfl).1;refine⟨⟨A0,y :: B,by rw[Dp.o],by have:=HAB.o;simpa using this,fun b hb=>?_,?_,I4 (I4 (below_drewN pI.o _) hgb _ _) hgb _ _⟩,by simp[intOf]⟩
      ·rcases List.mem_cons.1 hb with rfl|hb
       ·exact hr0
       ·exact oz.o b hb
      ·have e1:((A0++[y])++x :: (B++Z)).map Value.string=A0.map Value.string++.string y :: .string x :: (B++Z).map Value.string:=by simp
       have e2:(A0++x :: (y :: B++Z)).map Value.string=A0.map Value.string++.string x :: .string y :: (B++Z).map Value.string:=by simp
       have e4:m=(A0.map Value.string).length:=by rw[List.length_map];exact Dp.o.symm
       have h1:∀q,(((wr.drewN q).setCell ⟨g,m+1,none⟩ (.string y)).setCell ⟨g,m,none⟩ (.string x)).ownsRow w.heap.size 9 1 (.slice (some ⟨g,0,none⟩) n cap1) n ((A0++x :: (y :: B++Z)).map Value.string):=fun q=>by
        have h:=FH (FH (dV HRW.o (aH (ai wr none) q)) (m+1) (.string y) (by omega)) m (.string x) (by omega);rw[e1,e4,WB,<-e2,<-e4]at h;exact h
       exact h1 _
     ·have t5:=agm hr0;have sU:=kY.o (fun A1 y1 e=>by
       have e1:=List.append_inj' e rfl;have e2:y=y1:=by simpa using e1.2
       rw[<-e2];exact agn hr0)
      have oC:Hd (((A0++[y])++x :: B).Perm (L.take (i+1))/\sV ((A0++[y])++x :: B)):=sU;clear sU kY;go_wp2;go_quiet (fail);go_wp2;go_roundw
      case rel=>exact⟨i+1,(A0++[y])++x :: B,by go_num,by omega,by omega,oC.o.1,oC.o.2,by rw[<-FQ.o];exact dV HRW.o (aH (ai _ none) _),below_drewN pI.o _⟩
      case measure=>simp[intOf];omega
  ·have hil:i=n:=by omega
   have HQ:Hd (P.Perm L/\wr.ownsRow w.heap.size 9 1 (.slice (some ⟨g,0,none⟩) n cap1) P.length (P.map Value.string)):=by
    have hln:L.length=i:=HN.o.trans hil.symm;have e1:L.take i=L:=by rw[<-hln,List.take_length]
    have e2:L.drop i=[]:=by rw[<-hln,List.drop_length]
    rw[e1]at hp;rw[e2,List.append_nil]at hown;refine⟨hp,?_⟩;rw[hp.length_eq,HN.o];exact hown
   clear hp hs hown hb hil hi;go_wp2;refine bodyPost_ret (results_tmp (t:=2) rfl _ _ _) rfl ⟨_,P,rfl,HQ.o.2,HQ.o.1,HP.o.2,HB.o⟩
theorem agr(v:Value)(L:List ByteArray)(w:World)(h:TxS w v L)(hL:L.length<=1048576):Calls prog 68 #[v] w (WL L w):=by
 obtain⟨o,c,rfl⟩:=Il h
 by_cases h0:L.length=0
 ·have hnil:=List.length_eq_zero_iff.1 h0;subst hnil;have rV:=LW;obtain⟨j0,hj0,hjj⟩:=Option.map_eq_some_iff.1 rV;clear h rV hjj;have hz:(([]:List ByteArray).length)=0:=rfl;rw[hz];clear hz;go_enter func68,ntmps68;go_wp2_with (first|(at_builtin;refine Um rfl _ _ 67 rfl 9 j0 underlying67 hj0 rfl _ _ rfl ?_));go_wp2;go_loopw [4] (fun vi wr=>vi=.int .i64 1/\Below w.heap.size w wr) (fun vi _=>0)
  case atStart=>exact⟨rfl,Below.refl _ _⟩
  case round =>
   obtain⟨rfl,hb⟩:=hrel;have HB:Hd (Below w.heap.size w wr):=hb;clear hb;go_wp2;refine bodyPost_ret (results_tmp (t:=2) rfl _ _ _) rfl ⟨_,[],rfl,World.ownsRow_nil _ _ _ _,List.Perm.refl _,List.Pairwise.nil,HB.o⟩
 ·rcases h with⟨h1,h2⟩|⟨a,cap,h1,h2,h3⟩
  ·rw[h2]at h0;exact absurd rfl h0
  ·cases h1
   exact sorted_at a c L w hL (by omega) h3
end Go.Proofs.YtiinliaoojfjaaaGreatDoor
