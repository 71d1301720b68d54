import Derived.Test.YtnnbgjaphfhibaaGreatDoorN33
set_option linter.unusedVariables false
set_option linter.unusedSimpArgs false
set_option maxRecDepth 100000
set_option maxHeartbeats 6400000
namespace Go.Proofs.YtnnbgjaphfhibaaGreatDoor
def ErN(c:Int × Nat):Prop:=2<=c.1/\c.1<=5
def gp{α:Type}(r:Rs α):Prop:=∀c,r=.error c->ErN c
theorem gq{α:Type}(a:α):gp (.ok a:Rs α):=fun c h=>by cases h
theorem kN{α:Type}(p:Nat):gp (.error (2,p):Rs α):=fun c h=>by cases h;exact⟨(by decide:(2:Int)<=2),(by decide:(2:Int)<=5)⟩
theorem ac1{α:Type}(p:Nat):gp (.error (3,p):Rs α):=fun c h=>by cases h;exact⟨(by decide:(2:Int)<=3),(by decide:(3:Int)<=5)⟩
theorem ac2{α:Type}(p:Nat):gp (.error (4,p):Rs α):=fun c h=>by cases h;exact⟨(by decide:(2:Int)<=4),(by decide:(4:Int)<=5)⟩
theorem DC{α:Type}(p:Nat):gp (.error (5,p):Rs α):=fun c h=>by cases h;exact⟨(by decide:(2:Int)<=5),(by decide:(5:Int)<=5)⟩
theorem jR{α β:Type}{r:Rs α}(h:gp r){c:Int × Nat}(hc:r=.error c):gp (.error c:Rs β):=fun c' h'=>by cases h';exact h c hc
theorem Vk(l:List UInt8):∀(k i n:Nat),gp (four l k i n)
 | 0,i,n=>gq _
 | k+1,i,n=>by
  rw[Af];split
  ·exact kN _
  ·exact Vk l k _ _
theorem ac3(l:List UInt8)(i:Nat):gp (esc l i):=by
 unfold esc;split
 ·cases h:four l 4 (i+2) 0 with
  | error e=>exact jR (Vk l 4 (i+2) 0) h
  | ok q =>
   obtain⟨n,j⟩:=q;simp only[];split
   ·exact kN _
   ·exact gq _
 ·repeat' split
  all_goals first|exact gq _|exact kN _
theorem Hw(l:List UInt8):∀(f i:Nat) (acc:List UInt8),gp (str l f i acc)
 | 0,i,acc=>kN _
 | f+1,i,acc=>by
  rw[Az];split
  ·exact gq _
  ·split
   ·cases h:esc l i with
    | error e=>exact jR (ac3 l i) h
    | ok q =>
     obtain⟨b,j⟩:=q;exact Hw l f j _
   ·split
    ·exact kN _
    ·split
     ·exact kN _
     ·exact Hw l f _ _
theorem Vl(l:List UInt8)(i:Nat):gp (bW l i):=by
 unfold bW;split
 ·exact Hw _ _ _ _
 ·split
  ·exact kN _
  ·exact gq _
theorem ac4(l:List UInt8)(i:Nat):gp (iQ l i):=by
 unfold iQ;simp only[];generalize (if ax (nx l i)=true then i else i+1)=a;split
 ·exact kN _
 ·split
  ·exact ac1 _
  ·exact gq _
theorem ac5(l:List UInt8)(i:Nat):gp (kH l i):=by
 unfold kH;simp only[];split
 ·exact gq _
 ·split
  ·exact gq _
  ·exact kN _
theorem Nz(l:List UInt8):∀(f i:Nat),gp (gap l f i)
 | 0,i=>kN _
 | f+1,i=>by
  rw[tH];split
  ·exact kN _
  ·split
   ·exact Nz l f _
   ·exact gq _
theorem Hy(l:List UInt8)(i:Nat)(c:Int):gp (must l i c):=by
 unfold must;split
 ·exact gq _
 ·exact kN _
theorem ac6(l:List UInt8):∀f:Nat,(∀i up k p d ns,gp (val l f i up k p d ns))/\(∀i up d ns,gp (lst l f i up d ns)):=by
 intro f
 induction f with
 | zero =>
  refine⟨fun i up k p d ns=>?_,fun i up d ns=>?_⟩
  ·rw[val];exact kN _
  ·rw[lst];exact kN _
 | succ f ih =>
  refine⟨fun i up k p d ns=>?_,fun i up d ns=>?_⟩
  ·rw[rJ];split
   ·cases h:str l (l.length+1) (i+1) [] with
    | error e=>exact jR (Hw _ _ _ _) h
    | ok q=>exact gq _
   ·split
    ·cases h:iQ l i with
     | error e=>exact jR (ac4 _ _) h
     | ok q=>exact gq _
    ·split
     ·cases h:kH l i with
      | error e=>exact jR (ac5 _ _) h
      | ok q=>exact gq _
     ·split
      ·split
       ·exact ac2 _
       ·exact ih.2 _ _ _ _
      ·exact kN _
  ·rw[AA]
   cases h:gap l (l.length+1) i with
   | error e=>exact jR (Nz _ _ _) h
   | ok j =>
    simp only[];split
    ·exact gq _
    ·cases h2:val l f j up [] j d ns with
     | error e=>exact jR (ih.1 _ _ _ _ _ _) h2
     | ok q =>
      obtain⟨j1,ns1⟩:=q;simp only[]
      cases h3:gap l (l.length+1) j1 with
      | error e=>exact jR (Nz _ _ _) h3
      | ok j2 =>
       simp only[];split
       ·exact ih.2 _ _ _ _
       ·split
        ·exact gq _
        ·exact kN _
theorem ac7(ns:List Tn)(t:Nat)(k:List UInt8)(p:Nat):gp (fD ns t k p):=by
 unfold fD
 cases ah ns t k with
 | none=>exact gq _
 | some q =>
  simp only[];split
  ·exact gq _
  ·split
   ·cases ns[q]? with
    | none=>exact DC _
    | some u=>exact gq _
   ·exact DC _
theorem ac8(ns:List Tn)(own:List Nat)(t:Nat)(k:List UInt8)(p:Nat):gp (fJ ns own t k p):=by
 unfold fJ
 cases ah ns t k with
 | none=>exact gq _
 | some q =>
  simp only[];split
  ·exact gq _
  ·exact DC _
theorem ac9(ns:List Tn)(t:Nat)(k:List UInt8)(p:Nat):gp (fK ns t k p):=by
 unfold fK
 cases ah ns t k with
 | none=>exact gq _
 | some q =>
  simp only[];split
  ·exact gq _
  ·exact DC _
theorem Vm(many:Bool)(own:List Nat):∀(ks:List (List UInt8 × Nat)) (t:Nat) (ns:List Tn),gp (way many own ks t ns)
 | [],t,ns=>gq _
 | [(k,p)],t,ns=>by
  show gp (if many=true then fK ns t k p else fJ ns own t k p);split
  ·exact ac9 _ _ _ _
  ·exact ac8 _ _ _ _ _
 | (k,p) :: x :: r,t,ns=>by
  show gp (match fD ns t k p with | .error e=>.error e | .ok (t1,ns1)=>way many own (x :: r) t1 ns1)
  cases h:fD ns t k p with
  | error e=>exact jR (ac7 _ _ _ _) h
  | ok q =>
   obtain⟨t1,ns1⟩:=q;exact Vm many own (x :: r) t1 ns1
theorem Vo(l:List UInt8):∀(f i:Nat) (acc:List (List UInt8 × Nat)),gp (fF l f i acc)
 | 0,i,acc=>kN _
 | f+1,i,acc=>by
  show gp (match bW l (bl l i) with | .error e=>.error e | .ok (k,j)=>if nx l (bl l j)=46 then fF l f (bl l j+1) (acc++[(k,bl l i)]) else .ok (acc++[(k,bl l i)],bl l j))
  cases h:bW l (bl l i) with
  | error e=>exact jR (Vl _ _) h
  | ok q =>
   obtain⟨k,j⟩:=q;simp only[];split
   ·exact Vo l f _ _
   ·exact gq _
theorem ada(l:List UInt8)(d:Sd):gp (fQ l d):=by
 unfold fQ;simp only[];generalize (if decide (nx l (d.i+1)=91)=true then d.i+2 else d.i+1)=a
 cases h:fF l (l.length+1) a [] with
 | error e=>exact jR (Vo _ _ _ _) h
 | ok q =>
  obtain⟨ks,j⟩:=q;simp only[]
  cases h2:must l j 93 with
  | error e=>exact jR (Hy _ _ _) h2
  | ok j1 =>
   simp only[];have h3':gp (if decide (nx l (d.i+1)=91)=true then must l j1 93 else .ok j1):=by
    split
    ·exact Hy _ _ _
    ·exact gq _
   cases h3:(if decide (nx l (d.i+1)=91)=true then must l j1 93 else .ok j1) with
   | error e=>exact jR h3' h3
   | ok j2 =>
    simp only[]
    cases h4:way (decide (nx l (d.i+1)=91)) d.own ks 0 d.ns with
    | error e=>exact jR (Vm _ _ _ _ _) h4
    | ok q=>exact gq _
theorem adb(l:List UInt8)(d:Sd):gp (rdPair l d):=by
 unfold rdPair
 cases h:bW l d.i with
 | error e=>exact jR (Vl _ _) h
 | ok q =>
  obtain⟨k,j⟩:=q;simp only[]
  cases h2:must l (bl l j) 61 with
  | error e=>exact jR (Hy _ _ _) h2
  | ok j1 =>
   simp only[]
   cases ah d.ns d.now k with
   | some q=>exact DC _
   | none =>
    simp only[]
    cases h4:val l (2*l.length+2) (bl l j1) d.now k d.i 0 d.ns with
    | error e=>exact jR ((ac6 l _).1 _ _ _ _ _ _) h4
    | ok q=>exact gq _
theorem adc(l:List UInt8)(d:Sd):gp (iF l d):=by
 unfold iF;simp only[];have hX:gp (if nx l (bl l d.i)=91 then fQ l ⟨bl l d.i,d.ns,d.own,d.now⟩ else if nx l (bl l d.i)=34\/aN (nx l (bl l d.i))=true then rdPair l ⟨bl l d.i,d.ns,d.own,d.now⟩ else .ok ⟨bl l d.i,d.ns,d.own,d.now⟩):=by
  split
  ·exact ada _ _
  ·split
   ·exact adb _ _
   ·exact gq _
 generalize (if nx l (bl l d.i)=91 then fQ l ⟨bl l d.i,d.ns,d.own,d.now⟩ else if nx l (bl l d.i)=34\/aN (nx l (bl l d.i))=true then rdPair l ⟨bl l d.i,d.ns,d.own,d.now⟩ else .ok ⟨bl l d.i,d.ns,d.own,d.now⟩:Rs Sd)=X at hX ⊢
 cases X with
 | error e=>exact jR hX rfl
 | ok d1 =>
  simp only[];split
  ·exact kN _
  ·split
   ·exact gq _
   ·cases h:must l (bi l (bl l d1.i)).2 10 with
    | error e=>exact jR (Hy _ _ _) h
    | ok j=>exact gq _
theorem Vp(l:List UInt8):∀(f:Nat) (d:Sd),gp (jc l f d)
 | 0,d=>gq _
 | f+1,d=>by
  show gp (if l.length<=d.i then .ok d else match iF l d with | .error e=>.error e | .ok s1=>jc l f s1);split
  ·exact gq _
  ·cases h:iF l d with
   | error e=>exact jR (adc _ _) h
   | ok d1=>exact Vp l f d1
theorem NC(l:List UInt8)(c:Int)(p:Nat)(h:jy l=.error (c,p)):(c=1/\p=0)\/(2<=c/\c<=5):=by
 unfold jy at h;split at h
 ·cases h;exact Or.inl ⟨rfl,rfl⟩
 ·right
  cases hr:jc l (l.length+1) ⟨0,[⟨0,[],[],0,[],0⟩],[],0⟩ with
  | error e =>
   rw[hr]at h
   cases h
   exact Vp l _ _ _ hr
  | ok d=>rw[hr]at h;cases h
end Go.Proofs.YtnnbgjaphfhibaaGreatDoor
