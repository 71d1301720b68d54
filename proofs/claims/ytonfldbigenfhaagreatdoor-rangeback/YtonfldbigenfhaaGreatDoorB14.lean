import Derived.Test.YtonfldbigenfhaaGreatDoorB13
namespace Go.Proofs.YtonfldbigenfhaaGreatDoor
set_option linter.unusedVariables false
def lastH (h:V->Bool):Bool->List V->V->Bool
 | on,[],_=>on
 | on,d :: D,x=>if verC d x<=0 then lastH h (h d) D x else on
theorem par_tog (h:V->Bool) (x:V):∀(D:List V) (on:Bool),Rising D->par (tog h on D) x=(on ^^ lastH h on D x)
 | [],on,_=>by simp [tog,par,lastH]
 | d :: D,on,hr=>by
  have hD:=rising_tail hr
  by_cases hd:verC d x<=0
  ·rw [lastH,if_pos hd,tog]
   split
   ·rename_i e
    rw [par_tog h x D on hD,e]
   ·rename_i e
    rw [par,decide_eq_true hd,par_tog h x D (h d) hD]
    cases hb:h d <;> cases on <;> first | (exact absurd hb e) | (cases lastH h _ D x <;> rfl)
  ·rw [lastH,if_neg hd]
   have hx:verC x d < 0:=by have:=v_anti x d;omega
   rw [par_none]
   ·cases on <;> rfl
   ·intro t ht
    rcases List.mem_cons.1 ((tog_sub_list h (d :: D) on).subset ht) with e | e
    ·rw [e];exact hx
    ·exact v_lt_trans hx (rising_head hr t e)
theorem last_spec (h:V->Bool) (x:V):∀(D:List V) (on:Bool),Rising D →
  ((∀d ∈ D,verC x d < 0)/\lastH h on D x=on)\/∃z ∈ D,verC z x<=0/\(∀p ∈ D,verC z p < 0->verC x p < 0)/\lastH h on D x=h z
 | [],on,_=>Or.inl ⟨fun d hd=>by simp at hd,rfl⟩
 | d :: D,on,hr=>by
  have hD:=rising_tail hr
  by_cases hd:verC d x<=0
  ·right
   rw [lastH,if_pos hd]
   rcases last_spec h x D (h d) hD with ⟨h1,h2⟩ | ⟨z,hz,h1,h2,h3⟩
   ·refine ⟨d,by simp,hd,fun p hp hlt=>?_,h2⟩
    rcases List.mem_cons.1 hp with e | e
    ·rw [e,v_self] at hlt;omega
    ·exact h1 p e
   ·refine ⟨z,by simp [hz],h1,fun p hp hlt=>?_,h3⟩
    rcases List.mem_cons.1 hp with e | e
    ·rw [e] at hlt
     have:=rising_head hr z hz
     have:=v_anti d z
     omega
    ·exact h2 p e hlt
  ·left
   have hx:verC x d < 0:=by have:=v_anti x d;omega
   rw [lastH,if_neg hd]
   refine ⟨fun p hp=>?_,rfl⟩
   rcases List.mem_cons.1 hp with e | e
   ·rw [e];exact hx
   ·exact v_lt_trans hx (rising_head hr p e)
theorem sweep_par (ch:Int->Bool) (h0:ch 0=false) (Ls:List (List Sg)) (E:List Ed) (hE:E.Perm (edL 0 Ls)) (hs:SortedE E) (x:V) :
  par (swT (fun b=>ch (having Ls.length b)) (fun _=>0) false E) x=ch (haveN Ls x):=by
 have e1:=swT_tog (fun b=>ch (having Ls.length b)) E (fun x=>ch (haveN Ls x)) (fun x=>by simp only [having_lists Ls E hE]) hs E [] false rfl
 have e2:(fun j=>tot [] j)=(fun _=>(0:Int)):=rfl
 rw [e2] at e1
 rw [e1,par_tog _ x _ _ (poss_rising E hs),Bool.false_xor]
 have hne:∀e ∈ E,∃p ∈ poss E,verC e.at_ p=0:=(poss_mem E hs).2
 rcases last_spec (fun x=>ch (haveN Ls x)) x (poss E) false (poss_rising E hs) with ⟨h1,h2⟩ | ⟨z,hz,h1,h2,h3⟩
 ·rw [h2,<-having_lists Ls E hE]
  have:(fun j=>sumB E j x)=fun _=>(0:Int):=by
   funext j
   refine sumB_none E j x fun e he hle=>?_
   obtain ⟨p,hp,h0⟩:=hne e he
   have a1:=h1 p hp
   have a2:=v_anti e.at_ p
   have a3:=v_le_trans (show verC p e.at_<=0 by omega) hle
   have a4:=v_anti x p
   omega
  rw [this,having_zero,h0]
 ·rw [h3]
  show ch (haveN Ls z)=_
  rw [<-having_lists Ls E hE,<-having_lists Ls E hE]
  congr 2
  funext j
  refine sumB_congr E j z x fun e he=>?_
  obtain ⟨p,hp,h0⟩:=hne e he
  have a2:=v_anti e.at_ p
  by_cases hzp:verC z p < 0
  ·have hxp:=h2 p hp hzp
   constructor
   ·intro h
    exfalso
    have a3:=v_le_trans (show verC p e.at_<=0 by omega) h
    have a4:=v_anti z p
    omega
   ·intro h
    exfalso
    have a3:=v_le_trans (show verC p e.at_<=0 by omega) h
    have a4:=v_anti x p
    omega
  ·have hpz:verC p z<=0:=by have:=v_anti z p;omega
   have hez:verC e.at_ z<=0:=v_le_trans (show verC e.at_ p<=0 by omega) hpz
   exact ⟨fun _=>v_le_trans hez h1,fun _=>hez⟩
theorem holdsG_map (l:List Sp) (x:V):holdsG (l.map toSg) x=holdsL l x:=by
 unfold holdsG holdsL
 rw [List.any_map]
 rfl
theorem have_one (L:List Sp) (x:V):decide (0 < haveN [L.map toSg] x)=holdsL L x:=by
 unfold haveN
 simp only [List.map_cons,List.map_nil,List.sum_cons,List.sum_nil,holdsG_map]
 cases holdsL L x <;> simp
theorem have_all (L M:List Sp) (x:V):decide (haveN [L.map toSg,M.map toSg] x=((2:Nat):Int))=(holdsL L x && holdsL M x):=by
 unfold haveN
 simp only [List.map_cons,List.map_nil,List.sum_cons,List.sum_nil,holdsG_map]
 cases holdsL L x <;> cases holdsL M x <;> simp
def okT (t:V):Bool:=soundV ⟨t.major,t.minor,t.patch,t.pre,[]⟩
theorem er_okT (Ls:List (List Sp)) (h:Ls.all (·.all soundS)=true):∀(k:Nat),∀e ∈ erL k Ls,okT (toEd e).at_=true:=by
 have key:∀(a b c:Int) (p q:List UInt8),soundV ⟨a,b,c,p,q⟩=true->soundV ⟨a,b,c,p,[]⟩=true:=by
  intro a b c p q h
  unfold soundV at h ⊢
  simp only [Bool.and_eq_true] at h ⊢
  exact ⟨h.1,h.2.1,h.2.2.1,h.2.2.2.1,rfl⟩
 induction Ls with
 | nil=>intro k e he;simp [erL] at he
 | cons l Ls ih =>
  intro k e he
  rw [List.all_cons,Bool.and_eq_true] at h
  rw [erL] at he
  rcases List.mem_append.1 he with he | he
  ·obtain ⟨s,hs,he⟩:=List.mem_flatMap.1 he
   have hm:=List.all_eq_true.1 h.1 s hs
   unfold soundS at hm
   rw [Bool.and_eq_true] at hm
   have hf:=key _ _ _ _ _ hm.1
   unfold erS at he
   split at he
   ·simp at he;rw [he];exact hf
   ·rename_i ho
    split at he
    ·simp at he
     rcases he with rfl | rfl
     ·exact hf
     ·have:=hm.2
      rw [Bool.or_eq_true] at this
      rcases this with h | this
      ·exact absurd h ho
      ·exact key _ _ _ _ _ this
    ·simp at he
  ·exact ih h.2 (k+1) e he
structure NT (T:List V) (k:Nat):Prop where
 up:Rising T
 ok:∀t ∈ T,okParts true t.pre=true
 sm:∀t ∈ T,t.pre.length<=1048576
 sd:∀t ∈ T,okT t=true
 ln:T.length<=2097152 * k
theorem NT.nf {T:List V} {k:Nat} (h:NT T k) (hk:k<=2):NF (outs T):=⟨T,rfl,h.up,fun t ht=>⟨h.ok t ht,h.sm t ht⟩,by
 have h1:=h.ln
 have h5:2097152 * k<=2097152 * 2:=Nat.mul_le_mul_left _ hk
 omega⟩
theorem sweep_nt (ch:Int->Bool) (Ls:List (List Sp)) (hsz:∀l ∈ Ls,l.length<=1048576/\∀s ∈ l,smallS s) (hsd:Ls.all (·.all soundS)=true) (E:List Er) (hE:E.Perm (erL 0 Ls)) (hs:SortedE (E.map toEd)) :
  NT (swT (fun b=>ch (having Ls.length b)) (fun _=>0) false (E.map toEd)) Ls.length:=by
 have e1:=swT_tog (fun b=>ch (having Ls.length b)) (E.map toEd) (fun x=>ch (having Ls.length (fun j=>sumB (E.map toEd) j x))) (fun x=>rfl) hs (E.map toEd) [] false rfl
 have e2:(fun j=>tot [] j)=(fun _=>(0:Int)):=rfl
 rw [e2] at e1
 have hsub:=tog_sub_list (fun x=>ch (having Ls.length (fun j=>sumB (E.map toEd) j x))) (poss (E.map toEd)) false
 rw [<-e1] at hsub
 have hmem:∀t,t ∈ (swT (fun b=>ch (having Ls.length b)) (fun _=>0) false (E.map toEd))->∃e ∈ erL 0 Ls,(toEd e).at_=t:=by
  intro t ht
  obtain ⟨d,hd,rfl⟩:=(poss_mem _ hs).1 t (hsub.subset ht)
  obtain ⟨e,he,rfl⟩:=List.mem_map.1 hd
  exact ⟨e,hE.mem_iff.1 he,rfl⟩
 refine ⟨List.Pairwise.sublist hsub (poss_rising _ hs),?_,?_,?_,?_⟩
 ·intro t ht
  obtain ⟨e,he,rfl⟩:=hmem t ht
  exact er_ok Ls hsd 0 e he
 ·intro t ht
  obtain ⟨e,he,rfl⟩:=hmem t ht
  have:=er_small Ls hsz 0 e he
  show e.a4.data.toList.length<=_
  rw [Array.length_toList]
  exact this
 ·intro t ht
  obtain ⟨e,he,rfl⟩:=hmem t ht
  exact er_okT Ls hsd 0 e he
 ·have h1:(poss (E.map toEd)).length<=(E.map toEd).length:=by
   have:∀l:List Ed,(poss l).length<=l.length:=by
    intro l
    induction l with
    | nil=>simp [poss]
    | cons e r ih =>
     rw [poss]
     split
     ·rw [List.length_cons];omega
     ·rw [List.length_cons,List.length_cons];omega
   exact this _
  have h2:=hsub.length_le
  have h3:=erL_len Ls (fun l hl=>(hsz l hl).1) 0
  have h4:=hE.length_eq
  rw [List.length_map] at h1
  omega
theorem outs_len2 (T:List V):2 * (outs T).length<=T.length+1:=by
 induction T using outs.induct with
 | case1=>simp [outs]
 | case2 x=>simp [outs]
 | case3 x y r ih=>rw [outs,List.length_cons,List.length_cons,List.length_cons];omega
theorem NT.sound {T:List V} {k:Nat} (h:NT T k):(outs T).all soundS=true:=by
 rw [List.all_eq_true]
 intro s hs
 have hv:∀x y o,vFrom (spV x y o)=⟨x.major,x.minor,x.patch,x.pre,[]⟩:=fun x y o=>by simp [vFrom,spV]
 have hw:∀x y o,vTo (spV x y o)=⟨y.major,y.minor,y.patch,y.pre,[]⟩:=fun x y o=>by simp [vTo,spV]
 rcases outs_mem T s hs with ⟨x,hx,rfl⟩ | ⟨x,hx,y,hy,rfl⟩
 ·unfold soundS
  rw [hv]
  have:=h.sd x hx
  unfold okT at this
  rw [this];rfl
 ·unfold soundS
  rw [hv,hw]
  have h1:=h.sd x hx
  have h2:=h.sd y hy
  unfold okT at h1 h2
  rw [h1,h2];rfl
set_option linter.unusedVariables false
structure Pa where
 n:Nat
 a:Int
 b:Int
 c:Int
 pre:List UInt8
structure Te where
 sign:Int
 p:Pa
structure PaOk (p:Pa):Prop where
 n3:p.n<=3
 a0:0<=p.a/\p.a<=999999999
 b0:0<=p.b/\p.b<=999999999
 c0:0<=p.c/\p.c<=999999999
 z1:p.n < 1->p.a=0
 z2:p.n < 2->p.b=0
 z3:p.n < 3->p.c=0/\p.pre=[]
 ok:okParts true p.pre=true
def lowV:V:=⟨0,0,0,[48]⟩
def nilV:V:=⟨0,0,0,[]⟩
def paV (p:Pa):V:=⟨p.a,p.b,p.c,p.pre⟩
def firstV (p:Pa):V:=⟨p.a,p.b,p.c,if p.n < 3 then [48] else p.pre⟩
def namedB (p:Pa) (v:V):Bool:=if p.n=3 then decide (verC (paV p) v=0) else (decide (p.n < 1) || decide (v.major=p.a)) && (decide (p.n < 2) || decide (v.minor=p.b))
def placeB (p:Pa) (v:V):Int:=if (namedB p v || decide (p.n=0))=true then 0 else verC v (paV p)
def fromB (p:Pa) (v:V):Bool:=decide (p.n=0) || decide (verC (firstV p) v<=0)
def leadsB (p:Pa) (v:V):Bool :=
 if p.n=0 then true else if v.major ≠ p.a then false else if 0 < p.a\/p.n=1 then true else if v.minor ≠ p.b then false else (decide (0 < p.b) || decide (p.n=2)) || decide (v.patch=p.c)
def admB (t:Te) (v:V):Bool :=
 if t.sign=0 then namedB t.p v else if t.sign=1 then decide (0<=placeB t.p v) else if t.sign=2 then decide (placeB t.p v<=0) else if t.sign=3 then decide (0 < placeB t.p v)
 else if t.sign=4 then decide (placeB t.p v < 0) else if t.sign=5 then fromB t.p v && leadsB t.p v
 else if t.sign=6 then (fromB t.p v && (decide (t.p.n < 1) || decide (v.major=t.p.a))) && (decide (t.p.n < 2) || decide (v.minor=t.p.b)) else fromB t.p v
def behindV (v:V) (k:Nat):V:=if k=1 then ⟨v.major+1,0,0,[48]⟩ else if k=2 then ⟨v.major,v.minor+1,0,[48]⟩ else ⟨v.major,v.minor,v.patch+1,[48]⟩
def alikeG (p:Pa) (k:Nat):Sg:=if k=0 then ⟨firstV p,nilV,true⟩ else ⟨firstV p,behindV (firstV p) k,false⟩
def namedG (p:Pa):Sg:=if p.n=3 then ⟨firstV p,nextV (firstV p),false⟩ else alikeG p p.n
def leadN (p:Pa):Nat:=if p.a ≠ 0 then 1 else if p.b ≠ 0 then 2 else if p.c ≠ 0 then 3 else p.n
def signG (s:Int) (p:Pa):Sg :=
 if s=0 then namedG p else if s=1 then ⟨firstV p,nilV,true⟩ else if s=2 then ⟨lowV,(namedG p).to_,(namedG p).op⟩
 else if s=3 then (if (namedG p).op=true then ⟨lowV,lowV,false⟩ else ⟨(namedG p).to_,nilV,true⟩) else if s=4 then ⟨lowV,firstV p,false⟩
 else if s=5 then alikeG p (leadN p) else alikeG p (min p.n 2)
def betweenG (p q:Pa):Sg:=⟨firstV p,(namedG q).to_,(namedG q).op⟩
theorem lt_iff (x y:V):verC x y < 0 ↔ x.major < y.major\/(x.major=y.major/\(x.minor < y.minor\/(x.minor=y.minor/\(x.patch < y.patch\/(x.patch=y.patch/\preC x.pre y.pre < 0))))):=by
 rw [verC_eq]
 have c1:∀a b:Int,Lib.compareInt a b=0 ↔ a=b:=fun a b=>cmp_zero
 have c2:∀a b:Int,Lib.compareInt a b < 0 ↔ a < b:=fun a b=>by
  unfold Lib.compareInt
  repeat' split
  all_goals omega
 split
 ·rename_i h;rw [c1] at h
  split
  ·rename_i h2;rw [c1] at h2
   split
   ·rename_i h3;rw [c1] at h3;omega
   ·rename_i h3;rw [c1] at h3;rw [c2];omega
  ·rename_i h2;rw [c1] at h2;rw [c2];omega
 ·rename_i h;rw [c1] at h;rw [c2];omega
theorem le_iff (x y:V):verC x y<=0 ↔ ¬ verC y x < 0:=by have:=v_anti x y;omega
theorem pre_low (l:List UInt8):¬ preC l [48] < 0:=by
 have h1:=pre_zero l
 have h2:=good_pre.anti [48] l
 omega
structure VOk (v:V):Prop where
 n1:0<=v.major
 n2:0<=v.minor
 n3:0<=v.patch
 ok:okParts true v.pre=true
theorem next_iff (f v:V) (h:f.patch < 4611686018427387904):verC v (nextV f) < 0 ↔ verC v f<=0:=by
 constructor
 ·intro hn
  by_cases hc:verC v f<=0
  ·exact hc
  ·exact (none_between f v h (by have:=v_anti v f;omega) hn).elim
 ·intro hc
  exact v_le_lt hc (by have:=next_behind f h;omega)
theorem low_lt (v:V) (a b c:Int):verC v ⟨a,b,c,[48]⟩ < 0 ↔ v.major < a\/(v.major=a/\(v.minor < b\/(v.minor=b/\v.patch < c))):=by
 rw [lt_iff]
 have:=pre_low v.pre
 simp only []
 omega
theorem has_iff (s:Sg) (v:V):hasG s v=true ↔ ¬ verC v s.fr < 0/\(s.op=true\/verC v s.to_ < 0):=by
 unfold hasG
 rw [Bool.and_eq_true,Bool.or_eq_true,decide_eq_true_eq,decide_eq_true_eq,le_iff]
theorem low_all (v:V) (hv:VOk v):¬ verC v lowV < 0:=by
 unfold lowV
 rw [low_lt]
 have:=hv.n1;have:=hv.n2;have:=hv.n3
 omega
theorem named_ok (p:Pa) (hp:PaOk p) (v:V) (hv:VOk v):hasG (namedG p) v=namedB p v:=by
 obtain ⟨n,a,b,c,pre⟩:=p
 obtain ⟨n3,a0,b0,c0,z1,z2,z3,ok⟩:=hp
 simp only at n3 a0 b0 c0 z1 z2 z3 ok
 have v1:=hv.n1
 have v2:=hv.n2
 have v3:=hv.n3
 have hn:n=0\/n=1\/n=2\/n=3:=by omega
 rw [Bool.eq_iff_iff,has_iff]
 rcases hn with rfl | rfl | rfl | rfl
 ·simp [namedG,alikeG,namedB,firstV,low_lt,z1,z2,z3]
  omega
 ·simp [namedG,alikeG,namedB,firstV,behindV,low_lt,z2,z3]
  omega
 ·simp [namedG,alikeG,namedB,firstV,behindV,low_lt,z3]
  omega
 ·have hG:namedG ⟨3,a,b,c,pre⟩=⟨⟨a,b,c,pre⟩,nextV ⟨a,b,c,pre⟩,false⟩:=rfl
  have hB:namedB ⟨3,a,b,c,pre⟩ v=decide (verC (⟨a,b,c,pre⟩:V) v=0):=rfl
  rw [hG,hB,decide_eq_true_eq]
  simp only []
  rw [next_iff _ _ (by simp only [];omega)]
  have:=v_anti (⟨a,b,c,pre⟩:V) v
  constructor
  ·rintro ⟨h1,h2⟩
   rcases h2 with h2 | h2
   ·cases h2
   ·omega
  ·intro h
   exact ⟨by omega,Or.inr (by omega)⟩
theorem place_ok (p:Pa) (hp:PaOk p) (v:V) (hv:VOk v):(placeB p v < 0 ↔ verC v (firstV p) < 0)/\(0 < placeB p v ↔ (namedG p).op=false/\¬ verC v (namedG p).to_ < 0):=by
 obtain ⟨n,a,b,c,pre⟩:=p
 obtain ⟨n3,a0,b0,c0,z1,z2,z3,ok⟩:=hp
 simp only at n3 a0 b0 c0 z1 z2 z3 ok
 have v1:=hv.n1
 have v2:=hv.n2
 have v3:=hv.n3
 have hn:n=0\/n=1\/n=2\/n=3:=by omega
 rcases hn with rfl | rfl | rfl | rfl
 ·simp [namedG,alikeG,placeB,firstV,low_lt,z1,z2,z3]
  omega
 ·have hc:=(z3 (by omega)).1
  have hp:=(z3 (by omega)).2
  have hb:=z2 (by omega)
  subst hc hp hb
  have l1:=lt_iff v ⟨a,0,0,[]⟩
  have l2:=lt_iff ⟨a,0,0,[]⟩ v
  have l3:=v_anti v ⟨a,0,0,[]⟩
  simp only at l1 l2
  have k1:=low_lt v a 0 0
  have k2:=low_lt v (a+1) 0 0
  have hG:namedG ⟨1,a,0,0,[]⟩=⟨⟨a,0,0,[48]⟩,⟨a+1,0,0,[48]⟩,false⟩:=rfl
  have hF:firstV ⟨1,a,0,0,[]⟩=⟨a,0,0,[48]⟩:=rfl
  have hP:placeB ⟨1,a,0,0,[]⟩ v=if v.major=a then 0 else verC v ⟨a,0,0,[]⟩:=by
   unfold placeB namedB paV
   by_cases hm:v.major=a <;> simp [hm]
  by_cases hm:v.major=a
  ·rw [if_pos hm] at hP
   simp only [hG,hF,hP,eq_self,true_and];omega
  ·rw [if_neg hm] at hP
   simp only [hG,hF,hP,eq_self,true_and];omega
 ·have hc:=(z3 (by omega)).1
  have hp:=(z3 (by omega)).2
  subst hc hp
  have l1:=lt_iff v ⟨a,b,0,[]⟩
  have l2:=lt_iff ⟨a,b,0,[]⟩ v
  have l3:=v_anti v ⟨a,b,0,[]⟩
  simp only at l1 l2
  have k1:=low_lt v a b 0
  have k2:=low_lt v a (b+1) 0
  have hG:namedG ⟨2,a,b,0,[]⟩=⟨⟨a,b,0,[48]⟩,⟨a,b+1,0,[48]⟩,false⟩:=rfl
  have hF:firstV ⟨2,a,b,0,[]⟩=⟨a,b,0,[48]⟩:=rfl
  have hP:placeB ⟨2,a,b,0,[]⟩ v=if v.major=a/\v.minor=b then 0 else verC v ⟨a,b,0,[]⟩:=by
   unfold placeB namedB paV
   by_cases hm:v.major=a <;> by_cases hm2:v.minor=b <;> simp [hm,hm2]
  by_cases hm:v.major=a/\v.minor=b
  ·rw [if_pos hm] at hP
   simp only [hG,hF,hP,eq_self,true_and];omega
  ·rw [if_neg hm] at hP
   simp only [hG,hF,hP,eq_self,true_and];omega
 ·have l3:=v_anti (⟨a,b,c,pre⟩:V) v
  have hG:namedG ⟨3,a,b,c,pre⟩=⟨⟨a,b,c,pre⟩,nextV ⟨a,b,c,pre⟩,false⟩:=rfl
  have hF:firstV ⟨3,a,b,c,pre⟩=⟨a,b,c,pre⟩:=rfl
  have hP:placeB ⟨3,a,b,c,pre⟩ v=if verC (⟨a,b,c,pre⟩:V) v=0 then 0 else verC v ⟨a,b,c,pre⟩:=by
   unfold placeB namedB paV
   by_cases hm:verC (⟨a,b,c,pre⟩:V) v=0 <;> simp [hm]
  have hx:=next_iff ⟨a,b,c,pre⟩ v (by simp only [];omega)
  by_cases h0:verC (⟨a,b,c,pre⟩:V) v=0
  ·rw [if_pos h0] at hP
   simp only [hG,hF,hP,hx,eq_self,true_and];omega
  ·rw [if_neg h0] at hP
   simp only [hG,hF,hP,hx,eq_self,true_and];omega
theorem alike_ok (p:Pa) (hp:PaOk p) (k:Nat) (hk:k<=3) (v:V) (hv:VOk v) (h1:k=1->True) (hz:(k < 2->p.b=0\/True)) :
  hasG (alikeG p k) v=true ↔ ¬ verC v (firstV p) < 0/\(k=0\/(k=1/\v.major < p.a+1)\/(k=2/\(v.major < p.a\/(v.major=p.a/\v.minor < p.b+1)))\/(k=3/\(v.major < p.a\/(v.major=p.a/\(v.minor < p.b\/(v.minor=p.b/\v.patch < p.c+1)))))):=by
 rw [has_iff]
 have v1:=hv.n1
 have v2:=hv.n2
 have v3:=hv.n3
 have hn:k=0\/k=1\/k=2\/k=3:=by omega
 rcases hn with rfl | rfl | rfl | rfl
 ·simp [alikeG]
 ·have e:alikeG p 1=⟨firstV p,⟨p.a+1,0,0,[48]⟩,false⟩:=rfl
  have k1:=low_lt v (p.a+1) 0 0
  rw [e];simp only []
  simp
  omega
 ·have e:alikeG p 2=⟨firstV p,⟨p.a,p.b+1,0,[48]⟩,false⟩:=rfl
  have k1:=low_lt v p.a (p.b+1) 0
  rw [e];simp only []
  simp
  omega
 ·have e:alikeG p 3=⟨firstV p,⟨p.a,p.b,p.c+1,[48]⟩,false⟩:=rfl
  have k1:=low_lt v p.a p.b (p.c+1)
  rw [e];simp only []
  simp
  omega
theorem first_nums (p:Pa) (v:V) (h:¬ verC v (firstV p) < 0):p.a < v.major\/(p.a=v.major/\(p.b < v.minor\/(p.b=v.minor/\p.c<=v.patch))):=by
 have l1:=lt_iff v (firstV p)
 have e1:(firstV p).major=p.a:=rfl
 have e2:(firstV p).minor=p.b:=rfl
 have e3:(firstV p).patch=p.c:=rfl
 rw [e1,e2,e3] at l1
 omega
theorem from_ok (p:Pa) (hp:PaOk p) (v:V) (hv:VOk v):fromB p v=true ↔ ¬ verC v (firstV p) < 0:=by
 unfold fromB
 rw [Bool.or_eq_true,decide_eq_true_eq,decide_eq_true_eq,le_iff]
 constructor
 ·rintro (h | h)
  ·have e:firstV p=⟨0,0,0,[48]⟩:=by
    unfold firstV
    rw [if_pos (by omega),hp.z1 (by omega),hp.z2 (by omega),(hp.z3 (by omega)).1]
   rw [e]
   exact low_all v hv
  ·exact h
 ·exact Or.inr
theorem sign_ok (s:Int) (hs:0<=s/\s<=6) (p:Pa) (hp:PaOk p) (v:V) (hv:VOk v):hasG (signG s p) v=admB ⟨s,p⟩ v:=by
 have hl:=low_all v hv
 have hpl:=place_ok p hp v hv
 have hss:s=0\/s=1\/s=2\/s=3\/s=4\/s=5\/s=6:=by omega
 rcases hss with rfl | rfl | rfl | rfl | rfl | rfl | rfl
 ·exact named_ok p hp v hv
 ·rw [Bool.eq_iff_iff,has_iff]
  show (¬ verC v (firstV p) < 0/\(true=true\/_)) ↔ decide (0<=placeB p v)=true
  rw [decide_eq_true_eq]
  simp only [true_or,and_true]
  omega
 ·rw [Bool.eq_iff_iff,has_iff]
  show (¬ verC v lowV < 0/\((namedG p).op=true\/verC v (namedG p).to_ < 0)) ↔ decide (placeB p v<=0)=true
  rw [decide_eq_true_eq]
  cases hop:(namedG p).op with
  | true =>
   rw [hop] at hpl
   simp only [Bool.true_eq_false,false_and,iff_false] at hpl
   simp only [true_or,and_true]
   exact ⟨fun _=>by omega,fun _=>hl⟩
  | false =>
   rw [hop] at hpl
   simp only [eq_self,true_and] at hpl
   simp only [Bool.false_eq_true,false_or]
   omega
 ·show hasG (if (namedG p).op=true then ⟨lowV,lowV,false⟩ else ⟨(namedG p).to_,nilV,true⟩) v=decide (0 < placeB p v)
  rw [Bool.eq_iff_iff,decide_eq_true_eq]
  cases hop:(namedG p).op with
  | true =>
   rw [hop] at hpl
   simp only [Bool.true_eq_false,false_and,iff_false] at hpl
   rw [if_pos rfl,has_iff]
   simp only [Bool.false_eq_true,false_or]
   omega
  | false =>
   rw [hop] at hpl
   simp only [eq_self,true_and] at hpl
   rw [if_neg (by decide),has_iff]
   simp only [true_or,and_true]
   omega
 ·rw [Bool.eq_iff_iff,has_iff]
  show (¬ verC v lowV < 0/\(false=true\/verC v (firstV p) < 0)) ↔ decide (placeB p v < 0)=true
  rw [decide_eq_true_eq]
  simp only [Bool.false_eq_true,false_or]
  omega
 ·show hasG (alikeG p (leadN p)) v=(fromB p v && leadsB p v)
  have n3:=hp.n3
  have a0:=hp.a0
  have b0:=hp.b0
  have c0:=hp.c0
  have z1:=hp.z1
  have z2:=hp.z2
  have z3:=hp.z3
  rw [Bool.eq_iff_iff,Bool.and_eq_true,from_ok p hp v hv,alike_ok p hp (leadN p) (by unfold leadN;split;omega;split;omega;split;omega;exact n3) v hv (fun _=>trivial) (fun _=>Or.inr trivial)]
  refine and_congr_right fun hf=>?_
  have hn:=first_nums p v hf
  unfold leadN leadsB
  by_cases h0:p.n=0
  ·have e1:=z1 (by omega)
   have e2:=z2 (by omega)
   have e3:=(z3 (by omega)).1
   simp [h0,e1,e2,e3]
  ·rw [if_neg h0]
   by_cases ha:p.a=0
   ·by_cases hb:p.b=0
    ·by_cases hc:p.c=0
     ·simp only [ha,hb,hc,ne_eq,not_true_eq_false,if_false]
      by_cases hm:v.major=0
      ·by_cases h1:p.n=1
       ·simp [hm,h1] <;> omega
       ·by_cases hm2:v.minor=0
        ·by_cases h2:p.n=2
         ·simp [hm,hm2,h2] <;> omega
         ·simp [hm,hm2,h1,h2] <;> omega
        ·simp [hm,hm2,h1] <;> omega
      ·simp [hm] <;> omega
     ·simp only [ha,hb,hc,ne_eq,not_true_eq_false,if_false,not_false_eq_true,if_true]
      by_cases hm:v.major=0
      ·by_cases hm2:v.minor=0
       ·have h3:p.n=3:=by omega
        simp [hm,hm2,h3] <;> omega
       ·have h3:p.n=3:=by omega
        simp [hm,hm2,h3] <;> omega
      ·simp [hm] <;> omega
    ·simp only [ha,hb,ne_eq,not_true_eq_false,if_false,not_false_eq_true,if_true]
     have h3:¬ p.n=1:=by omega
     by_cases hm:v.major=0
     ·by_cases hm2:v.minor=p.b
      ·simp [hm,hm2,h3] <;> omega
      ·simp [hm,hm2,h3] <;> omega
     ·simp [hm] <;> omega
   ·simp only [ha,ne_eq,not_false_eq_true,if_true]
    by_cases hm:v.major=p.a
    ·simp [hm] <;> omega
    ·simp [hm] <;> omega
 ·show hasG (alikeG p (min p.n 2)) v=((fromB p v && (decide (p.n < 1) || decide (v.major=p.a))) && (decide (p.n < 2) || decide (v.minor=p.b)))
  have n3:=hp.n3
  have z1:=hp.z1
  have z2:=hp.z2
  rw [Bool.eq_iff_iff,Bool.and_eq_true,Bool.and_eq_true,and_assoc,from_ok p hp v hv,alike_ok p hp (min p.n 2) (by omega) v hv (fun _=>trivial) (fun _=>Or.inr trivial)]
  refine and_congr_right fun hf=>?_
  have hn:=first_nums p v hf
  simp only [Bool.or_eq_true,decide_eq_true_eq]
  omega
theorem between_ok (p q:Pa) (hp:PaOk p) (hq:PaOk q) (v:V) (hv:VOk v):hasG (betweenG p q) v=(admB ⟨7,p⟩ v && admB ⟨2,q⟩ v):=by
 have h2:=sign_ok 2 (by decide) q hq v hv
 rw [<-h2]
 show _=(fromB p v && _)
 rw [Bool.eq_iff_iff,Bool.and_eq_true,from_ok p hp v hv,has_iff,has_iff]
 show (¬ verC v (firstV p) < 0/\_) ↔ (¬ verC v (firstV p) < 0/\(¬ verC v lowV < 0/\((namedG q).op=true\/verC v (namedG q).to_ < 0)))
 have hl:=low_all v hv
 constructor
 ·rintro ⟨h1,h2⟩
  exact ⟨h1,hl,h2⟩
 ·rintro ⟨h1,_,h2⟩
  exact ⟨h1,h2⟩
end Go.Proofs.YtonfldbigenfhaaGreatDoor
