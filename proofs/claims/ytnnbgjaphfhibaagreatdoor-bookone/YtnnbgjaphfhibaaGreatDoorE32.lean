import Derived.Test.YtnnbgjaphfhibaaGreatDoorE26
import Derived.Test.YtnnbgjaphfhibaaGreatDoorE30
set_option linter.all false
set_option maxRecDepth 100000
set_option maxHeartbeats 0
open Go.Proofs.Tryz
namespace Go.Proofs.YtnnbgjaphfhibaaGreatDoor
def ErN(c:Int × Nat):Prop:=2<=c.1/\c.1<=5
def gJ{α:Type}(r:Rs α):Prop:=∀c,r=.error c->ErN c
theorem gK{α:Type}(a:α):gJ (.ok a:Rs α):=fun c h=>by cases h
theorem lG{α:Type}(p:Nat):gJ (.error (2,p):Rs α):=fun c h=>by cases h;exact⟨(by decide:(2:Int)<=2),(by decide:(2:Int)<=5)⟩
theorem aga{α:Type}(p:Nat):gJ (.error (3,p):Rs α):=fun c h=>by cases h;exact⟨(by decide:(2:Int)<=3),(by decide:(3:Int)<=5)⟩
theorem agb{α:Type}(p:Nat):gJ (.error (4,p):Rs α):=fun c h=>by cases h;exact⟨(by decide:(2:Int)<=4),(by decide:(4:Int)<=5)⟩
theorem Fh{α:Type}(p:Nat):gJ (.error (5,p):Rs α):=fun c h=>by cases h;exact⟨(by decide:(2:Int)<=5),(by decide:(5:Int)<=5)⟩
theorem kF{α β:Type}{r:Rs α}(h:gJ r){c:Int × Nat}(hc:r=.error c):gJ (.error c:Rs β):=fun c' h'=>by cases h';exact h c hc
theorem Yj(l:List UInt8):∀(k i n:Nat),gJ (four l k i n)
 | 0,i,n=>gK _
 | k+1,i,n=>by
  rw[Cj];split
  ·exact lG _
  ·exact Yj l k _ _
theorem agc(l:List UInt8)(i:Nat):gJ (esc l i):=by
 unfold esc;split
 ·cases h:four l 4 (i+2) 0 with
  | error e=>exact kF (Yj l 4 (i+2) 0) h
  | ok q =>
   obtain⟨n,j⟩:=q;simp only[];split
   ·exact lG _
   ·exact gK _
 ·repeat' split
  all_goals first|exact gK _|exact lG _
theorem Jw(l:List UInt8):∀(f i:Nat) (acc:List UInt8),gJ (str l f i acc)
 | 0,i,acc=>lG _
 | f+1,i,acc=>by
  rw[yN];split
  ·exact gK _
  ·split
   ·cases h:esc l i with
    | error e=>exact kF (agc l i) h
    | ok q =>
     obtain⟨b,j⟩:=q;exact Jw l f j _
   ·split
    ·exact lG _
    ·split
     ·exact lG _
     ·exact Jw l f _ _
theorem Yk(l:List UInt8)(i:Nat):gJ (dm l i):=by
 unfold dm;split
 ·exact Jw _ _ _ _
 ·split
  ·exact lG _
  ·exact gK _
theorem agd(l:List UInt8)(i:Nat):gJ (jc l i):=by
 unfold jc;simp only[];generalize (if aA (nx l i)=true then i else i+1)=a;split
 ·exact lG _
 ·split
  ·exact aga _
  ·exact gK _
theorem age(l:List UInt8)(i:Nat):gJ (lQ l i):=by
 unfold lQ;simp only[];split
 ·exact gK _
 ·split
  ·exact gK _
  ·exact lG _
theorem PD(l:List UInt8):∀(f i:Nat),gJ (gap l f i)
 | 0,i=>lG _
 | f+1,i=>by
  rw[uP];split
  ·exact lG _
  ·split
   ·exact PD l f _
   ·exact gK _
theorem Jy(l:List UInt8)(i:Nat)(c:Int):gJ (must l i c):=by
 unfold must;split
 ·exact gK _
 ·exact lG _
theorem agf(l:List UInt8):∀f:Nat,(∀i up k p d ns,gJ (val l f i up k p d ns))/\(∀i up d ns,gJ (lst l f i up d ns)):=by
 intro f
 induction f with
 | zero =>
  refine⟨fun i up k p d ns=>?_,fun i up d ns=>?_⟩
  ·rw[val];exact lG _
  ·rw[lst];exact lG _
 | succ f ih =>
  refine⟨fun i up k p d ns=>?_,fun i up d ns=>?_⟩
  ·rw[o9];split
   ·cases h:str l (l.length+1) (i+1) [] with
    | error e=>exact kF (Jw _ _ _ _) h
    | ok q=>exact gK _
   ·split
    ·cases h:jc l i with
     | error e=>exact kF (agd _ _) h
     | ok q=>exact gK _
    ·split
     ·cases h:lQ l i with
      | error e=>exact kF (age _ _) h
      | ok q=>exact gK _
     ·split
      ·split
       ·exact agb _
       ·exact ih.2 _ _ _ _
      ·exact lG _
  ·rw[yV]
   cases h:gap l (l.length+1) i with
   | error e=>exact kF (PD _ _ _) h
   | ok j =>
    simp only[];split
    ·exact gK _
    ·cases h2:val l f j up [] j d ns with
     | error e=>exact kF (ih.1 _ _ _ _ _ _) h2
     | ok q =>
      obtain⟨j1,ns1⟩:=q;simp only[]
      cases h3:gap l (l.length+1) j1 with
      | error e=>exact kF (PD _ _ _) h3
      | ok j2 =>
       simp only[];split
       ·exact ih.2 _ _ _ _
       ·split
        ·exact gK _
        ·exact lG _
theorem agh(ns:List Tn)(t:Nat)(k:List UInt8)(p:Nat):gJ (gz ns t k p):=by
 unfold gz
 cases ah ns t k with
 | none=>exact gK _
 | some q =>
  simp only[];split
  ·exact gK _
  ·split
   ·cases ns[q]? with
    | none=>exact Fh _
    | some u=>exact gK _
   ·exact Fh _
theorem agi(ns:List Tn)(own:List Nat)(t:Nat)(k:List UInt8)(p:Nat):gJ (gV ns own t k p):=by
 unfold gV
 cases ah ns t k with
 | none=>exact gK _
 | some q =>
  simp only[];split
  ·exact gK _
  ·exact Fh _
theorem agj(ns:List Tn)(t:Nat)(k:List UInt8)(p:Nat):gJ (fO ns t k p):=by
 unfold fO
 cases ah ns t k with
 | none=>exact gK _
 | some q =>
  simp only[];split
  ·exact gK _
  ·exact Fh _
theorem Yl(many:Bool)(own:List Nat):∀(ks:List (List UInt8 × Nat)) (t:Nat) (ns:List Tn),gJ (way many own ks t ns)
 | [],t,ns=>gK _
 | [(k,p)],t,ns=>by
  show gJ (if many=true then fO ns t k p else gV ns own t k p);split
  ·exact agj _ _ _ _
  ·exact agi _ _ _ _ _
 | (k,p) :: x :: r,t,ns=>by
  show gJ (match gz ns t k p with | .error e=>.error e | .ok (t1,ns1)=>way many own (x :: r) t1 ns1)
  cases h:gz ns t k p with
  | error e=>exact kF (agh _ _ _ _) h
  | ok q =>
   obtain⟨t1,ns1⟩:=q;exact Yl many own (x :: r) t1 ns1
theorem Ym(l:List UInt8):∀(f i:Nat) (acc:List (List UInt8 × Nat)),gJ (ik l f i acc)
 | 0,i,acc=>lG _
 | f+1,i,acc=>by
  show gJ (match dm l (bl l i) with | .error e=>.error e | .ok (k,j)=>if nx l (bl l j)=46 then ik l f (bl l j+1) (acc++[(k,bl l i)]) else .ok (acc++[(k,bl l i)],bl l j))
  cases h:dm l (bl l i) with
  | error e=>exact kF (Yk _ _) h
  | ok q =>
   obtain⟨k,j⟩:=q;simp only[];split
   ·exact Ym l f _ _
   ·exact gK _
theorem agk(l:List UInt8)(d:Sd):gJ (iF l d):=by
 unfold iF;simp only[];generalize (if decide (nx l (d.i+1)=91)=true then d.i+2 else d.i+1)=a
 cases h:ik l (l.length+1) a [] with
 | error e=>exact kF (Ym _ _ _ _) h
 | ok q =>
  obtain⟨ks,j⟩:=q;simp only[]
  cases h2:must l j 93 with
  | error e=>exact kF (Jy _ _ _) h2
  | ok j1 =>
   simp only[];have h3':gJ (if decide (nx l (d.i+1)=91)=true then must l j1 93 else .ok j1):=by
    split
    ·exact Jy _ _ _
    ·exact gK _
   cases h3:(if decide (nx l (d.i+1)=91)=true then must l j1 93 else .ok j1) with
   | error e=>exact kF h3' h3
   | ok j2 =>
    simp only[]
    cases h4:way (decide (nx l (d.i+1)=91)) d.own ks 0 d.ns with
    | error e=>exact kF (Yl _ _ _ _ _) h4
    | ok q=>exact gK _
theorem agl(l:List UInt8)(d:Sd):gJ (rdPair l d):=by
 unfold rdPair
 cases h:dm l d.i with
 | error e=>exact kF (Yk _ _) h
 | ok q =>
  obtain⟨k,j⟩:=q;simp only[]
  cases h2:must l (bl l j) 61 with
  | error e=>exact kF (Jy _ _ _) h2
  | ok j1 =>
   simp only[]
   cases ah d.ns d.now k with
   | some q=>exact Fh _
   | none =>
    simp only[]
    cases h4:val l (2*l.length+2) (bl l j1) d.now k d.i 0 d.ns with
    | error e=>exact kF ((agf l _).1 _ _ _ _ _ _) h4
    | ok q=>exact gK _
theorem agm(l:List UInt8)(d:Sd):gJ (gW l d):=by
 unfold gW;simp only[];have hX:gJ (if nx l (bl l d.i)=91 then iF l ⟨bl l d.i,d.ns,d.own,d.now⟩ else if nx l (bl l d.i)=34\/bg (nx l (bl l d.i))=true then rdPair l ⟨bl l d.i,d.ns,d.own,d.now⟩ else .ok ⟨bl l d.i,d.ns,d.own,d.now⟩):=by
  split
  ·exact agk _ _
  ·split
   ·exact agl _ _
   ·exact gK _
 generalize (if nx l (bl l d.i)=91 then iF l ⟨bl l d.i,d.ns,d.own,d.now⟩ else if nx l (bl l d.i)=34\/bg (nx l (bl l d.i))=true then rdPair l ⟨bl l d.i,d.ns,d.own,d.now⟩ else .ok ⟨bl l d.i,d.ns,d.own,d.now⟩:Rs Sd)=X at hX ⊢
 cases X with
 | error e=>exact kF hX rfl
 | ok d1 =>
  simp only[];split
  ·exact lG _
  ·split
   ·exact gK _
   ·cases h:must l (aZ l (bl l d1.i)).2 10 with
    | error e=>exact kF (Jy _ _ _) h
    | ok j=>exact gK _
theorem Yn(l:List UInt8):∀(f:Nat) (d:Sd),gJ (jA l f d)
 | 0,d=>gK _
 | f+1,d=>by
  show gJ (if l.length<=d.i then .ok d else match gW l d with | .error e=>.error e | .ok s1=>jA l f s1);split
  ·exact gK _
  ·cases h:gW l d with
   | error e=>exact kF (agm _ _) h
   | ok d1=>exact Yn l f d1
theorem PE(l:List UInt8)(c:Int)(p:Nat)(h:jK l=.error (c,p)):(c=1/\p=0)\/(2<=c/\c<=5):=by
 unfold jK at h;split at h
 ·cases h;exact Or.inl ⟨rfl,rfl⟩
 ·right
  cases hr:jA l (l.length+1) ⟨0,[⟨0,[],[],0,[],0⟩],[],0⟩ with
  | error e =>
   rw[hr]at h
   cases h
   exact Yn l _ _ _ hr
  | ok d=>rw[hr]at h;cases h
def Jz(ns:List Tn)(own:List Nat)(now:Nat):Rs Nat->Rs Sd
 | .error e=>.error e
 | .ok j=>.ok ⟨j,ns,own,now⟩
def yc(l:List UInt8)(ns:List Tn)(own:List Nat)(now:Nat):Rs Nat->Rs Sd
 | .error e=>.error e
 | .ok m=>if l.length<=m then .ok ⟨m,ns,own,now⟩ else Jz ns own now (must l m 10)
theorem agn(l:List UInt8)(ns:List Tn)(own:List Nat)(now m:Nat)(h:m<l.length):yc l ns own now (.ok m)=Jz ns own now (must l m 10):=by
 show(if _ then _ else _)=_;rw[if_neg (by omega)]
theorem agp(l:List UInt8)(ns:List Tn)(own:List Nat)(now m:Nat)(h:l.length<=m):yc l ns own now (.ok m)=.ok ⟨m,ns,own,now⟩:=by
 show(if _ then _ else _)=_;rw[if_pos h]
def JA(l:List UInt8):Rs Sd->Rs Sd
 | .error e=>.error e
 | .ok d=>yc l d.ns d.own d.now ((Except.bind (.ok d.i) fun i=>.ok (bl l i):Rs Nat).bind (jo l))
theorem agq(l:List UInt8)(d:Sd):(if(aZ l (bl l d.i)).1=false then .error (2,(aZ l (bl l d.i)).2)
  else if nx l (aZ l (bl l d.i)).2=-1 then .ok ⟨(aZ l (bl l d.i)).2,d.ns,d.own,d.now⟩
  else Jz d.ns d.own d.now (must l (aZ l (bl l d.i)).2 10):Rs Sd)=JA l (.ok d):=by
 show _=yc l d.ns d.own d.now (jo l (bl l d.i));unfold jo
 cases hc:(aZ l (bl l d.i)).1 with
 | false=>rw[if_pos rfl,if_neg (by decide)];rfl
 | true =>
  rw[if_neg (by decide),if_pos rfl];show _=if _ then _ else _
  by_cases h:nx l (aZ l (bl l d.i)).2=-1
  ·rw[if_pos h,if_pos (Cc h)]
  ·rw[if_neg h,if_neg (fun hh=>h (jJ _ _ hh))]
theorem agr(l:List UInt8)(d:Sd):gW l d=JA l (if nx l (bl l d.i)=91 then iF l ⟨bl l d.i,d.ns,d.own,d.now⟩ else if nx l (bl l d.i)=34\/bg (nx l (bl l d.i))=true then rdPair l ⟨bl l d.i,d.ns,d.own,d.now⟩ else .ok ⟨bl l d.i,d.ns,d.own,d.now⟩):=by
 unfold gW;simp only[];generalize (if nx l (bl l d.i)=91 then iF l ⟨bl l d.i,d.ns,d.own,d.now⟩ else if nx l (bl l d.i)=34\/bg (nx l (bl l d.i))=true then rdPair l ⟨bl l d.i,d.ns,d.own,d.now⟩ else .ok ⟨bl l d.i,d.ns,d.own,d.now⟩:Rs Sd)=X
 cases X with
 | error e=>rfl
 | ok d1 =>
  rw[<-agq];simp only[];split
  ·rfl
  ·split
   ·rfl
   ·cases must l (aZ l (bl l d1.i)).2 10<;>rfl
theorem run_stop(p:UInt8->Bool):∀(l:List UInt8),(l.drop (l.takeWhile p).length).takeWhile p=[]
 | []=>rfl
 | c :: r=>by
  rw[List.takeWhile_cons]
  cases h:p c with
  | true=>simp only[if_true,List.length_cons,List.drop_succ_cons];exact run_stop p r
  | false=>simp[h]
theorem ags(p:Int->Bool)(l:List UInt8)(i:Nat):toR p l (toR p l i)=toR p l i:=by
 have h:=run_stop (fun c=>p (c.toNat:Int)) (l.drop i);have e:runN (fun c=>p (c.toNat:Int)) l (i+runN (fun c=>p (c.toNat:Int)) l i)=0:=by
  unfold runN;rw[List.drop_drop]at h;rw[h];rfl
 unfold toR;rw[e];rfl
theorem agt(l:List UInt8)(i:Nat):bl l (bl l i)=bl l i:=ags eU l i
theorem agu(l:List UInt8)(d:Sd)(h34:¬nx l d.i=34)(hba:bg (nx l d.i)=false):rdPair l d=.error (2,d.i):=by
 have e:=kX bg l d.i hba;have hk:dm l d.i=.error (2,d.i):=by unfold dm;rw[if_neg h34,if_pos e]
 unfold rdPair;rw[hk]
theorem agv(l:List UInt8)(d:Sd):gW l d=JA l (if nx l (bl l d.i)=91 then iF l ⟨bl l d.i,d.ns,d.own,d.now⟩ else if ¬nx l (bl l d.i)=-1/\¬nx l (bl l d.i)=35/\¬nx l (bl l d.i)=10 then rdPair l ⟨bl l d.i,d.ns,d.own,d.now⟩ else .ok ⟨bl l d.i,d.ns,d.own,d.now⟩):=by
 rw[agr]
 by_cases kE:nx l (bl l d.i)=91
 ·rw[if_pos kE,if_pos kE]
 ·rw[if_neg kE,if_neg kE]
  by_cases hp:nx l (bl l d.i)=34\/bg (nx l (bl l d.i))=true
  ·rw[if_pos hp,if_pos];refine⟨fun e=>?_,fun e=>?_,fun e=>?_⟩<;>(rw[e]at hp;revert hp;decide)
  ·rw[if_neg hp]
   by_cases ho:¬nx l (bl l d.i)=-1/\¬nx l (bl l d.i)=35/\¬nx l (bl l d.i)=10
   ·rw[if_pos ho,agu l ⟨bl l d.i,d.ns,d.own,d.now⟩ (fun e=>hp (Or.inl e)) (by cases hh:bg (nx l (bl l d.i));rfl;exact(hp (Or.inr hh)).elim)];show yc l d.ns d.own d.now (jo l (bl l (bl l d.i)))=.error (2,bl l d.i);rw[agt,Sz l _ ho.2.1];show(if _ then _ else _)=_;rw[if_neg (fun hh=>ho.1 (jJ _ _ hh))];unfold must;rw[if_neg ho.2.2];rfl
   ·rw[if_neg ho]
open Go.RowKit Go.Maps Go.WideMaps Go.Joins
theorem agw{ns:List Tn}{t p:Nat}{k:List UInt8}{c:Int × Nat}(h:gz ns t k p=.error c):c=(5,p):=by
 unfold gz at h;split at h
 ·cases h
 ·split at h
  ·cases h
  ·split at h
   ·split at h
    ·cases h
    ·cases h;rfl
   ·cases h;rfl
theorem agx{ns:List Tn}{own:List Nat}{t p:Nat}{k:List UInt8}{c:Int × Nat}(h:gV ns own t k p=.error c):c=(5,p):=by
 unfold gV at h;split at h
 ·cases h
 ·split at h
  ·cases h
  ·cases h;rfl
theorem agy{ns:List Tn}{t p:Nat}{k:List UInt8}{c:Int × Nat}(h:fO ns t k p=.error c):c=(5,p):=by
 unfold fO at h;split at h
 ·cases h
 ·split at h
  ·cases h
  ·cases h;rfl
section
variable {w w':World} {B P P' R:Nat} {s:ByteArray} {now de:Nat} {q:Rs Nat} {ns:List Tn} {own:List Nat}
theorem Dt.toP(h:Dt w B P R s now de q ns own)(hP:P'<B):Dt w B P' R s now de q ns own:=by
 have hb:=h.base;obtain⟨h1,h2,N,c,O,oc,xs,ks,h3,h4,h5,h6⟩:=h;have n1:=(bH h5.row (g:=N) rfl).1;have n2:=(bH h5.owr (g:=O) rfl).1;refine⟨h1,by omega,N,c,O,oc,xs,ks,by omega,by omega,h5.far2 (by omega) fun i hi e=>?_,h6⟩;have:=(bH (h5.kid i hi) e).1;omega
theorem DFr.toP(h:DFr B P w w')(hP:P'<B):DFr B P' w w':=⟨h.bel,h.oth,h.bel.block P' hP⟩
theorem Fq.toP{e:Int × Nat}(h:Fq w B P R s now de e)(hP:P'<B):Fq w B P' R s now de e:=by
 obtain⟨L,O,h1,h2,h3,h4⟩:=h;obtain⟨i,er,p,hd⟩:=h1.dd;have:=aB hd;exact⟨L,O,h1,h2,by omega,by omega⟩
end
def uC(l:List (List UInt8 × Nat)):List Value:=l.map fun x=>.string ⟨x.1.toArray⟩
def uD(l:List (List UInt8 × Nat)):List Value:=l.map fun x=>.int .i64 (x.2:Nat)
theorem agz(l:List (List UInt8 × Nat))(x:List UInt8 × Nat):uC (l++[x])=uC l++[.string ⟨x.1.toArray⟩]:=by simp[uC]
theorem agA(l:List (List UInt8 × Nat))(x:List UInt8 × Nat):uD (l++[x])=uD l++[.int .i64 (x.2:Nat)]:=by simp[uD]
theorem PG(l:List (List UInt8 × Nat))(i:Nat)(hi:i<l.length):(uC l)[i]?=some (.string ⟨l[i].1.toArray⟩):=by simp[uC,hi]
theorem PH(l:List (List UInt8 × Nat))(i:Nat)(hi:i<l.length):(uD l)[i]?=some (.int .i64 (l[i].2:Nat)):=by simp[uD,hi]
theorem Dt.places{w w':World}{B P R:Nat}{s:ByteArray}{now de j j' g:Nat}{ns:List Tn}{own:List Nat}(h:Dt w B P R s now de (.ok j) ns own)(hg:w.grownBy w' (some R))(hs:∀L O,Ds w R s L O now de (.ok j)->Ds w' R s L O now de (.ok j'))(h1:w.heap.size<=g)(h2:g<w'.heap.size):Dt w' B g R s now de (.ok j') ns own:=by
 have hb:=h.base;obtain⟨a1,a2,N,c,O,oc,xs,ks,a3,a4,a5,a6⟩:=h;obtain⟨cn,hn⟩:=(bH a5.row (g:=N) rfl).2;obtain⟨co,ho⟩:=(bH a5.owr (g:=O) rfl).2;have n1:=aB hn;have n2:=aB ho;refine⟨a1,by omega,N,c,O,oc,xs,ks,by omega,by omega,(a5.keepR a6.2 hg).far2 h2 fun i hi e=>?_,hs _ _ a6⟩;obtain⟨cc,hcc⟩:=(bH (a5.kid i hi) e).2;have:=aB hcc;omega
theorem Ds.uni{w:World}{R:Nat}{s:ByteArray}{L O L' O':Value}{now de i:Nat}(h:Ds w R s L O now de (.ok i))(h':Ds w R s L' O' now de (.ok i)):L=L'/\O=O':=by
 obtain⟨-,-,a,b,-⟩:=h.2.cells;obtain⟨-,-,a',b',-⟩:=h'.2.cells;rw[a]at a';rw[b]at b';exact⟨Option.some.inj a',Option.some.inj b'⟩
theorem Dt.owns{w:World}{B P R:Nat}{s:ByteArray}{now de j:Nat}{ns:List Tn}{own:List Nat}(h:Dt w B P R s now de (.ok j) ns own)(t:Nat)(ht:t<ns.length):∃O oc v,w.cell? ⟨R,3,none⟩=some (.slice (some ⟨O,0,none⟩) ns.length oc)/\w.cell? ⟨O,t,none⟩=some v/\w.frozen? ⟨O,t,none⟩=false ∧
  (w.setCell ⟨O,t,none⟩ (.bool true)).cell? ⟨R,4,none⟩=some (.int .i64 (now:Nat))/\(w.setCell ⟨O,t,none⟩ (.bool true)).frozen? ⟨R,4,none⟩=false ∧
  Dt ((w.setCell ⟨O,t,none⟩ (.bool true)).setCell ⟨R,4,none⟩ (.int .i64 (t:Nat))) B P R s t de (.ok j) ns (t :: own)/\DFr B P w ((w.setCell ⟨O,t,none⟩ (.bool true)).setCell ⟨R,4,none⟩ (.int .i64 (t:Nat))):=by
 obtain⟨hb1,hb2,hb3⟩:=h.base;obtain⟨h1,h2,N,c,O,oc,xs,ks,h3,h4,h5,h6⟩:=h;obtain⟨f1,f2⟩:=h5.flagAt t ht;obtain⟨-,-,-,c3,-⟩:=h6.2.cells;obtain⟨hOB,cu,hO⟩:=bH h5.owr (g:=O) rfl;have hRO:=aO h6.2 hO (by decide);have m5:=h5.mark t ht;have d6:=h6.other (iL w O t (.bool true)) hRO;obtain⟨-,-,-,-,e4,-,-,-,ef⟩:=d6.2.cells;have fr1:=DFr.row (iL w O t (.bool true)) hb1 hb2 hOB h4 hO (Or.inr (Or.inr (Or.inr rfl)));have fr2:DFr B P (w.setCell ⟨O,t,none⟩ (.bool true)) ((w.setCell ⟨O,t,none⟩ (.bool true)).setCell ⟨R,4,none⟩ (.int .i64 (t:Nat))):=rZ d6 h1 h2 m5.hP (iL _ R 4 _);exact⟨O,oc,_,c3,f1,f2,e4,ef 4,⟨h1,h2,N,c,O,oc,xs,ks,h3,h4,m5.keepR d6.2 (iL _ R 4 _),d6.setN t⟩,fr1.two fr2⟩
open Go.RowKit Go.Maps Go.WideMaps Go.Joins
def PI:Prop:=∀(B P R:Nat) (s:ByteArray) (now i:Nat) (ns:List Tn) (own:List Nat) (w:World),Dt w B P R s now 0 (.ok i) ns own->P<B->s.size<=100000->nx s.data.toList i=91->Li s.data.toList ⟨i,ns,own,now⟩ →
 Calls prog 53 #[.pointer (some ⟨R,0,none⟩)] w (EY B P R s now own (iF s.data.toList ⟨i,ns,own,now⟩) w)
theorem agB{B P R:Nat}{s:ByteArray}{now now0:Nat}{ns:List Tn}{own own0:List Nat}{q:Rs Nat}{w w':World}(hd:Dq w' B P R s now 0 q ns own)(hf:DFr B P w w'):EY B P R s now0 own0 (Jz ns own now q) w (.returned (.tuple #[])) w':=by
 match q,hd with
 | .error e,hd=>exact⟨rfl,fun d hh=>(by cases hh),fun c hh=>(by have hh:(Except.error e:Rs Sd)=.error c:=hh;injection hh with hh;subst hh;exact⟨now,hd⟩),hf⟩
 | .ok j,hd=>exact⟨rfl,fun d hh=>(by have hh:(Except.ok ⟨j,ns,own,now⟩:Rs Sd)=.ok d:=hh;injection hh with hh;subst hh;exact hd),fun c hh=>(by cases hh),hf⟩
theorem agC(CH0:PI)(B P R:Nat)(s:ByteArray)(now i:Nat)(ns:List Tn)(own:List Nat)(w:World)(h:Dt w B P R s now 0 (.ok i) ns own)(hB:P<B)(hs:s.size<=100000)(LI:Li s.data.toList ⟨i,ns,own,now⟩) :
  Calls prog 30 #[.pointer (some ⟨R,0,none⟩)] w (EY B P R s now own (gW s.data.toList ⟨i,ns,own,now⟩) w):=by
 have hl:s.data.toList.length=s.size:=by simp
 have CB:=ae (fun now ns own (q:Rs Nat) w (h:Dq w B P R s now 0 q ns own)=>Xb B P R s now 0 ns own q w h hs);have CC:=ae (fun now ns own (q:Rs Nat) w (h:Dq w B P R s now 0 q ns own)=>aes B P R s now 0 ns own q w h hs);have CM:=ae (fun now ns own (q:Rs Nat) w (h:Dq w B P R s now 0 q ns own)=>Oz B P R s now 0 ns own q w h hs 10 (by decide));have hi:=h.cells.2.2.2.2.2.1;have hbl:=jR s.data.toList i (by omega);have LB:=EP LI (bl s.data.toList i) hbl.1 hbl.2;have jl:Hd (gW s.data.toList ⟨i,ns,own,now⟩=JA s.data.toList (if nx s.data.toList (bl s.data.toList i)=91 then iF s.data.toList ⟨bl s.data.toList i,ns,own,now⟩ else if ¬nx s.data.toList (bl s.data.toList i)=-1/\¬nx s.data.toList (bl s.data.toList i)=35/\¬nx s.data.toList (bl s.data.toList i)=10 then rdPair s.data.toList ⟨bl s.data.toList i,ns,own,now⟩ else .ok ⟨bl s.data.toList i,ns,own,now⟩)):=agv _ _
 have hn1:=LI.nn;simp only[]at hn1;obtain⟨G,hG⟩:=zN (gW s.data.toList ⟨i,ns,own,now⟩);rw[hG]at jl ⊢;obtain⟨j,hj⟩:=zN (bl s.data.toList i);have HBJ:Hd ((Except.bind (.ok i) fun i=>.ok (bl s.data.toList i):Rs Nat)=.ok j):=by show Except.ok _=_;rw[hj]
 rw[hj]at jl LB hbl;obtain⟨hij,hjs⟩:=hbl;have CI:Hd (∀w,Dq w B P R s now 0 (.ok j) ns own->Calls prog 52 #[.pointer (some ⟨R,0,none⟩),.int .u8 91] w fun e w'=>e=.returned (.bool (decide (nx s.data.toList j=91)))/\Dq w' B P R s now 0 (.ok j) ns own/\DFr B P w w'):=fun w h=>Xc B P R s now 0 ns own (.ok j) w h hs 91 (by decide)
 have xZ:=ae (fun w (h:Dt w B P R s now 0 (.ok j) ns own) (hx:nx s.data.toList j=91)=>CH0 B P R s now j ns own w h hB hs hx LB);have CP:=ae (fun w (h:Dt w B P R s now 0 (.ok j) ns own)=>afQ B P R s now j ns own w h LB.jt.wf LB.jt.wt LB.jt.lt (by rw[LB.jt.kd];decide) (by rw[hl]at hjs;omega) hs);have HD0:Hd (Dq w B P R s now 0 (.ok i) ns own):=h;have HX:Hd (∀(hk:j<s.size),nx s.data.toList j=(s[j].toNat:Int)):=byte_at s j;have uQ:Hd (¬j<s.size->nx s.data.toList j=-1):=fun hh=>jJ _ _ (by omega)
 clear h hG hj LB LI CH0 hn1;go_enter func30,ntmps30;go_wp2_with (go_at_call 51;refine(CB.o now ns own (.ok i) _ HD0.o).mono ?_);rintro e w1 ⟨rfl,hd1,hf1⟩;rw[HBJ.o]at hd1;have HD1:=ae hd1;have jF:=ae hf1;clear hd1 hf1;have hcs:nx s.data.toList j=91\/(¬nx s.data.toList j=91/\((∃hjl:j<s.size,((s[j].toNat:Int) != 35)=true/\((s[j].toNat:Int) != 10)=true)\/(∃hjl:j<s.size,((s[j].toNat:Int) != 35)=false)\/(∃hjl:j<s.size,((s[j].toNat:Int) != 35)=true/\((s[j].toNat:Int) != 10)=false)\/¬j<s.size)):=by
  by_cases kE:nx s.data.toList j=91
  ·exact .inl kE
  ·by_cases hjl:j<s.size
   ·cases b5:((s[j].toNat:Int) != 35) with
    | false=>exact .inr ⟨kE,.inr (.inl ⟨hjl,b5⟩)⟩
    | true =>
     cases b1:((s[j].toNat:Int) != 10) with
     | false=>exact .inr ⟨kE,.inr (.inr (.inl ⟨hjl,b5,b1⟩))⟩
     | true=>exact .inr ⟨kE,.inl ⟨hjl,b5,b1⟩⟩
   ·exact .inr ⟨kE,.inr (.inr (.inr hjl))⟩
 rcases hcs with p1|⟨kE,⟨hjl,hb5,hb1⟩|⟨hjl,hc5⟩|⟨hjl,hb5,hc1⟩|hje⟩
 all_goals (
  have ax:=jl.o
  first
   | (first
     | (rw[decide_eq_true p1]at CI
        rw[if_pos p1]at ax;have l9:=ae ax;have wQ:=ae (fun w (h:Dt w B P R s now 0 (.ok j) ns own)=>xZ.o w h p1);obtain⟨V,hV⟩:=zN (iF s.data.toList ⟨j,ns,own,now⟩);rw[hV]at l9 wQ;clear p1 hV ax;go_wp2_with (first|(go_at_call 52;refine(CI.o _ HD1.o).mono ?_;rintro e w2 ⟨rfl,hd2,hf2⟩)|(go_at_call 53;refine(wQ.o _ hd2).mono ?_));rintro e w4 ⟨rfl,a1,a2,hf4⟩;have yg:=ae ((jF.o.two hf2).two hf4);clear hd2 hf2 hf4)
     | (have hxj:=HX.o hjl
        rw[if_neg kE,if_pos ⟨by rw[hxj];omega,by rw[hxj];simpa using hb5,by rw[hxj];simpa using hb1⟩]at ax;have l9:=ae ax;have vH:=ae CP.o;rw[decide_eq_false kE]at CI;have hlt1:decide ((j:Int)<(s.size:Int))=true:=by simp;omega
        obtain⟨V,hV⟩:=zN (rdPair s.data.toList ⟨j,ns,own,now⟩);rw[hV]at l9 vH;clear kE hV hxj CP ax;go_wp2_with (go_at_call 52;refine(CI.o _ HD1.o).mono ?_);rintro e w2 ⟨rfl,hd2,hf2⟩;have HD2:Hd (Dt w2 B P R s now 0 (.ok j) ns own):=hd2;have HF2:=ae (jF.o.two hf2);obtain⟨c0,c1,-,-,-,-,-⟩:=HD2.o.cells;clear hd2 hf2;go_wp2;go_quiet (fail);have aF:=HD2.o.drew nq;have dG:=ae aF.1;have bi:=ae (HF2.o.two aF.2);obtain⟨wA,hwA⟩:=zN (w2.drewN nq);rw[hwA]at dG bi ⊢;clear hwA aF c0 c1;go_wp2_with (go_at_call 54;refine(vH.o _ dG.o).mono ?_);rintro e w4 ⟨rfl,a1,a2,hf4⟩;have yg:=ae (bi.o.two hf4);clear hf4)
      obtain⟨nw,nsx,ow,q1,hq,htl⟩:∃nw nsx ow,∃q1:Rs Nat,Dq w4 B P R s nw 0 q1 nsx ow/\yc s.data.toList nsx ow nw ((q1.bind fun i=>.ok (bl s.data.toList i)).bind (jo s.data.toList))=G:=by
       cases V with
       | error c =>
        obtain⟨now',hd4⟩:=a2 c rfl;exact⟨now',ns,own,.error c,hd4,by rw[l9.o];rfl⟩
       | ok d=>exact⟨d.now,d.ns,d.own,.ok d.i,a1 d rfl,by rw[l9.o];rfl⟩
      have PK:=ae hq;have yh:=ae htl;clear a1 a2 hq htl)
   | (rw[if_neg kE,if_neg (by
       rintro⟨y1,y2,y3⟩
       first
        | exact y1 (uQ.o hje)
        | (rw[HX.o hjl]at y2;simp at hc5;omega)
        | (rw[HX.o hjl]at y3;simp at hc1;omega))]at ax
      have l9:=ae ax;rw[decide_eq_false kE]at CI
      first
       | (have hlt1:decide ((j:Int)<(s.size:Int))=false:=by simp;omega)
       | (have hlt1:decide ((j:Int)<(s.size:Int))=true:=by simp;omega)
      clear kE CP ax;go_wp2_with (go_at_call 52;refine(CI.o _ HD1.o).mono ?_);rintro e w2 ⟨rfl,hd2,hf2⟩;have HD2:Hd (Dt w2 B P R s now 0 (.ok j) ns own):=hd2;have HF2:=ae (jF.o.two hf2);obtain⟨c0,c1,-,-,-,-,-⟩:=HD2.o.cells;clear hd2 hf2;go_wp2;go_quiet (fail);have aF:=HD2.o.drew nq;obtain⟨nw,nsx,ow,q1,hq,htl⟩:∃nw nsx ow,∃q1:Rs Nat,Dq (w2.drewN nq) B P R s nw 0 q1 nsx ow/\yc s.data.toList nsx ow nw ((q1.bind fun i=>.ok (bl s.data.toList i)).bind (jo s.data.toList))=G:=⟨now,ns,own,.ok j,aF.1,by rw[l9.o];rfl⟩;have yg:=ae (HF2.o.two aF.2);have PK:=ae hq;have yh:=ae htl;obtain⟨w4,hw4⟩:=zN (w2.drewN nq);rw[hw4]at PK yg ⊢;clear hw4 aF c0 c1 hq htl)
  go_wp2_with (first|(go_at_call 51;refine(CB.o nw nsx ow q1 _ PK.o).mono ?_;rintro e w5 ⟨rfl,hd5,hf5⟩)|(go_at_call 55;refine(CC.o nw nsx ow _ _ hd5).mono ?_));rintro e w6 ⟨rfl,hd6,su⟩;have HF6:=ae ((yg.o.two hf5).two su);have uF:=ae hd6;obtain⟨q6,hq6⟩:=zN ((q1.bind fun i=>.ok (bl s.data.toList i)).bind (jo s.data.toList));have vW:Hd (yc s.data.toList nsx ow nw q6=G):=by
   show _=_;rw[<-hq6];exact yh.o
  rw[hq6]at uF;clear hd5 hf5 hd6 su hq6
  match q6,uF,vW with
  | .error c,uF,vW =>
   obtain⟨Lx,Ox,⟨y1,jj,y2,y3⟩,y4⟩:=uF.o;obtain⟨z0,z1,-,-,-,-,-,-,-⟩:=y3.cells;have aC:Hd (G=.error c):=vW.o.symm;clear y1 y3 y4
   by_cases hjj:jj<s.size
   ·have hlt1:decide ((jj:Int)<(s.size:Int))=true:=by simp;omega
    have hlt2:(jj:Int)<(s.size:Int):=by omega
    go_wp2;go_quiet (fail);have aF:=Fq.drew uF.o nq;have dG:Hd (Dq (w6.drewN nq) B P R s nw 0 (.error c) nsx ow):=aF.1;have bi:=ae (HF6.o.two aF.2);obtain⟨wA,hwA⟩:=zN (w6.drewN nq);rw[hwA]at dG bi ⊢;clear hwA aF z0 z1;go_wp2_with (go_at_call 56;refine(CM.o nw nsx ow (.error c) _ dG.o).mono ?_;rintro e w7 ⟨rfl,hd7,jY⟩);refine bodyPost_end (results_none rfl _ _ _) rfl ?_;rw[aC.o];exact⟨rfl,fun d hh=>(by cases hh),fun c' hh=>(by injection hh with hh;subst hh;exact⟨nw,hd7⟩),bi.o.two jY⟩
   ·have hlt1:decide ((jj:Int)<(s.size:Int))=false:=by simp;omega
    have hlt2:¬(jj:Int)<(s.size:Int):=by omega
    go_wp2;go_quiet (fail);have aF:=Fq.drew uF.o nq;have dG:=ae aF.1;have bi:=ae (HF6.o.two aF.2);go_wp2;refine bodyPost_end (results_none rfl _ _ _) rfl ?_;rw[aC.o];exact⟨rfl,fun d hh=>(by cases hh),fun c' hh=>(by injection hh with hh;subst hh;exact⟨nw,dG.o⟩),bi.o⟩
  | .ok m,uF,vW =>
   obtain⟨z0,z1,-,-,-,hms,-⟩:=Dt.cells uF.o
   by_cases hm:m<s.size
   ·have hlt1:decide ((m:Int)<(s.size:Int))=true:=by simp;omega
    have hlt2:(m:Int)<(s.size:Int):=by omega
    have HGM:=ae ((agn s.data.toList nsx ow nw m (by omega)).symm.trans vW.o);go_wp2;go_quiet (fail);have aF:=Dt.drew uF.o nq;have dG:Hd (Dq (w6.drewN nq) B P R s nw 0 (.ok m) nsx ow):=aF.1;have bi:=ae (HF6.o.two aF.2);obtain⟨wA,hwA⟩:=zN (w6.drewN nq);rw[hwA]at dG bi ⊢;clear hwA aF z0 z1;go_wp2_with (go_at_call 56;refine(CM.o nw nsx ow (.ok m) _ dG.o).mono ?_;rintro e w7 ⟨rfl,hd7,jY⟩);refine bodyPost_end (results_none rfl _ _ _) rfl ?_;have agD:Dq w7 B P R s nw 0 (must s.data.toList m 10) nsx ow:=hd7;rw[<-HGM.o];exact agB agD (bi.o.two jY)
   ·have hlt1:decide ((m:Int)<(s.size:Int))=false:=by simp;omega
    have hlt2:¬(m:Int)<(s.size:Int):=by omega
    have aC:=ae (vW.o.symm.trans (agp s.data.toList nsx ow nw m (by omega)));go_wp2;go_quiet (fail);have aF:=Dt.drew uF.o nq;have dG:=ae aF.1;have bi:=ae (HF6.o.two aF.2);go_wp2;refine bodyPost_end (results_none rfl _ _ _) rfl ?_;rw[aC.o];exact⟨rfl,fun d hh=>(by cases hh;exact dG.o),fun c' hh=>(by cases hh),bi.o⟩)
end Go.Proofs.YtnnbgjaphfhibaaGreatDoor
