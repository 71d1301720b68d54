import Derived.Test.YtfplkhnclmidnaaGreatDoorM15
import Derived.Test.YtfplkhnclmidnaaGreatDoorM05
namespace Go.Proofs.YtfplkhnclmidnaaGreatDoor
set_option linter.unusedVariables false
def lastH (h:V->Bool):Bool->List V->V->Bool
 | on,[],_=>on
 | on,d :: D,x=>if verC d x<=0 then lastH h (h d) D x else on
theorem par_tog (h:V->Bool) (x:V):∀(D:List V) (on:Bool),Rising D->par (tog h on D) x=(on ^^ lastH h on D x)
 | [],on,_=>by simp [tog,par,lastH]
 | d :: D,on,hr=>by
  have hD:=rising_tail hr
  by_cases hd:verC d x<=0
  ·rw [lastH,if_pos hd,tog]
   split
   ·rename_i e
    rw [par_tog h x D on hD,e]
   ·rename_i e
    rw [par,decide_eq_true hd,par_tog h x D (h d) hD]
    cases hb:h d <;> cases on <;> first | (exact absurd hb e) | (cases lastH h _ D x <;> rfl)
  ·rw [lastH,if_neg hd]
   have hx:verC x d < 0:=by have:=v_anti x d;omega
   rw [par_none]
   ·cases on <;> rfl
   ·intro t ht
    rcases List.mem_cons.1 ((tog_sub_list h (d :: D) on).subset ht) with e | e
    ·rw [e];exact hx
    ·exact v_lt_trans hx (rising_head hr t e)
theorem last_spec (h:V->Bool) (x:V):∀(D:List V) (on:Bool),Rising D →
  ((∀d ∈ D,verC x d < 0)/\lastH h on D x=on)\/∃z ∈ D,verC z x<=0/\(∀p ∈ D,verC z p < 0->verC x p < 0)/\lastH h on D x=h z
 | [],on,_=>Or.inl ⟨fun d hd=>by simp at hd,rfl⟩
 | d :: D,on,hr=>by
  have hD:=rising_tail hr
  by_cases hd:verC d x<=0
  ·right
   rw [lastH,if_pos hd]
   rcases last_spec h x D (h d) hD with ⟨h1,h2⟩ | ⟨z,hz,h1,h2,h3⟩
   ·refine ⟨d,by simp,hd,fun p hp hlt=>?_,h2⟩
    rcases List.mem_cons.1 hp with e | e
    ·rw [e,v_self] at hlt;omega
    ·exact h1 p e
   ·refine ⟨z,by simp [hz],h1,fun p hp hlt=>?_,h3⟩
    rcases List.mem_cons.1 hp with e | e
    ·rw [e] at hlt
     have:=rising_head hr z hz
     have:=v_anti d z
     omega
    ·exact h2 p e hlt
  ·left
   have hx:verC x d < 0:=by have:=v_anti x d;omega
   rw [lastH,if_neg hd]
   refine ⟨fun p hp=>?_,rfl⟩
   rcases List.mem_cons.1 hp with e | e
   ·rw [e];exact hx
   ·exact v_lt_trans hx (rising_head hr p e)
theorem sweep_par (ch:Int->Bool) (h0:ch 0=false) (Ls:List (List Sg)) (E:List Ed) (hE:E.Perm (edL 0 Ls)) (hs:SortedE E) (x:V) :
  par (swT (fun b=>ch (having Ls.length b)) (fun _=>0) false E) x=ch (haveN Ls x):=by
 have e1:=swT_tog (fun b=>ch (having Ls.length b)) E (fun x=>ch (haveN Ls x)) (fun x=>by simp only [having_lists Ls E hE]) hs E [] false rfl
 have e2:(fun j=>tot [] j)=(fun _=>(0:Int)):=rfl
 rw [e2] at e1
 rw [e1,par_tog _ x _ _ (poss_rising E hs),Bool.false_xor]
 have hne:∀e ∈ E,∃p ∈ poss E,verC e.at_ p=0:=(poss_mem E hs).2
 rcases last_spec (fun x=>ch (haveN Ls x)) x (poss E) false (poss_rising E hs) with ⟨h1,h2⟩ | ⟨z,hz,h1,h2,h3⟩
 ·rw [h2,<-having_lists Ls E hE]
  have:(fun j=>sumB E j x)=fun _=>(0:Int):=by
   funext j
   refine sumB_none E j x fun e he hle=>?_
   obtain ⟨p,hp,h0⟩:=hne e he
   have a1:=h1 p hp
   have a2:=v_anti e.at_ p
   have a3:=v_le_trans (show verC p e.at_<=0 by omega) hle
   have a4:=v_anti x p
   omega
  rw [this,having_zero,h0]
 ·rw [h3]
  show ch (haveN Ls z)=_
  rw [<-having_lists Ls E hE,<-having_lists Ls E hE]
  congr 2
  funext j
  refine sumB_congr E j z x fun e he=>?_
  obtain ⟨p,hp,h0⟩:=hne e he
  have a2:=v_anti e.at_ p
  by_cases hzp:verC z p < 0
  ·have hxp:=h2 p hp hzp
   constructor
   ·intro h
    exfalso
    have a3:=v_le_trans (show verC p e.at_<=0 by omega) h
    have a4:=v_anti z p
    omega
   ·intro h
    exfalso
    have a3:=v_le_trans (show verC p e.at_<=0 by omega) h
    have a4:=v_anti x p
    omega
  ·have hpz:verC p z<=0:=by have:=v_anti z p;omega
   have hez:verC e.at_ z<=0:=v_le_trans (show verC e.at_ p<=0 by omega) hpz
   exact ⟨fun _=>v_le_trans hez h1,fun _=>hez⟩
theorem holdsG_map (l:List Sp) (x:V):holdsG (l.map toSg) x=holdsL l x:=by
 unfold holdsG holdsL
 rw [List.any_map]
 rfl
theorem have_one (L:List Sp) (x:V):decide (0 < haveN [L.map toSg] x)=holdsL L x:=by
 unfold haveN
 simp only [List.map_cons,List.map_nil,List.sum_cons,List.sum_nil,holdsG_map]
 cases holdsL L x <;> simp
theorem have_all (L M:List Sp) (x:V):decide (haveN [L.map toSg,M.map toSg] x=((2:Nat):Int))=(holdsL L x && holdsL M x):=by
 unfold haveN
 simp only [List.map_cons,List.map_nil,List.sum_cons,List.sum_nil,holdsG_map]
 cases holdsL L x <;> cases holdsL M x <;> simp
def okT (t:V):Bool:=soundV ⟨t.major,t.minor,t.patch,t.pre,[]⟩
theorem er_okT (Ls:List (List Sp)) (h:Ls.all (·.all soundS)=true):∀(k:Nat),∀e ∈ erL k Ls,okT (toEd e).at_=true:=by
 have key:∀(a b c:Int) (p q:List UInt8),soundV ⟨a,b,c,p,q⟩=true->soundV ⟨a,b,c,p,[]⟩=true:=by
  intro a b c p q h
  unfold soundV at h ⊢
  simp only [Bool.and_eq_true] at h ⊢
  exact ⟨h.1,h.2.1,h.2.2.1,h.2.2.2.1,rfl⟩
 induction Ls with
 | nil=>intro k e he;simp [erL] at he
 | cons l Ls ih =>
  intro k e he
  rw [List.all_cons,Bool.and_eq_true] at h
  rw [erL] at he
  rcases List.mem_append.1 he with he | he
  ·obtain ⟨s,hs,he⟩:=List.mem_flatMap.1 he
   have hm:=List.all_eq_true.1 h.1 s hs
   unfold soundS at hm
   rw [Bool.and_eq_true] at hm
   have hf:=key _ _ _ _ _ hm.1
   unfold erS at he
   split at he
   ·simp at he;rw [he];exact hf
   ·rename_i ho
    split at he
    ·simp at he
     rcases he with rfl | rfl
     ·exact hf
     ·have:=hm.2
      rw [Bool.or_eq_true] at this
      rcases this with h | this
      ·exact absurd h ho
      ·exact key _ _ _ _ _ this
    ·simp at he
  ·exact ih h.2 (k+1) e he
structure NT (T:List V) (k:Nat):Prop where
 up:Rising T
 ok:∀t ∈ T,okParts true t.pre=true
 sm:∀t ∈ T,t.pre.length<=1048576
 sd:∀t ∈ T,okT t=true
 ln:T.length<=2097152 * k
theorem NT.nf {T:List V} {k:Nat} (h:NT T k) (hk:k<=2):NF (outs T):=⟨T,rfl,h.up,fun t ht=>⟨h.ok t ht,h.sm t ht⟩,by
 have h1:=h.ln
 have h5:2097152 * k<=2097152 * 2:=Nat.mul_le_mul_left _ hk
 omega⟩
theorem sweep_nt (ch:Int->Bool) (Ls:List (List Sp)) (hsz:∀l ∈ Ls,l.length<=1048576/\∀s ∈ l,smallS s) (hsd:Ls.all (·.all soundS)=true) (E:List Er) (hE:E.Perm (erL 0 Ls)) (hs:SortedE (E.map toEd)) :
  NT (swT (fun b=>ch (having Ls.length b)) (fun _=>0) false (E.map toEd)) Ls.length:=by
 have e1:=swT_tog (fun b=>ch (having Ls.length b)) (E.map toEd) (fun x=>ch (having Ls.length (fun j=>sumB (E.map toEd) j x))) (fun x=>rfl) hs (E.map toEd) [] false rfl
 have e2:(fun j=>tot [] j)=(fun _=>(0:Int)):=rfl
 rw [e2] at e1
 have hsub:=tog_sub_list (fun x=>ch (having Ls.length (fun j=>sumB (E.map toEd) j x))) (poss (E.map toEd)) false
 rw [<-e1] at hsub
 have hmem:∀t,t ∈ (swT (fun b=>ch (having Ls.length b)) (fun _=>0) false (E.map toEd))->∃e ∈ erL 0 Ls,(toEd e).at_=t:=by
  intro t ht
  obtain ⟨d,hd,rfl⟩:=(poss_mem _ hs).1 t (hsub.subset ht)
  obtain ⟨e,he,rfl⟩:=List.mem_map.1 hd
  exact ⟨e,hE.mem_iff.1 he,rfl⟩
 refine ⟨List.Pairwise.sublist hsub (poss_rising _ hs),?_,?_,?_,?_⟩
 ·intro t ht
  obtain ⟨e,he,rfl⟩:=hmem t ht
  exact er_ok Ls hsd 0 e he
 ·intro t ht
  obtain ⟨e,he,rfl⟩:=hmem t ht
  have:=er_small Ls hsz 0 e he
  show e.a4.data.toList.length<=_
  rw [Array.length_toList]
  exact this
 ·intro t ht
  obtain ⟨e,he,rfl⟩:=hmem t ht
  exact er_okT Ls hsd 0 e he
 ·have h1:(poss (E.map toEd)).length<=(E.map toEd).length:=by
   have:∀l:List Ed,(poss l).length<=l.length:=by
    intro l
    induction l with
    | nil=>simp [poss]
    | cons e r ih =>
     rw [poss]
     split
     ·rw [List.length_cons];omega
     ·rw [List.length_cons,List.length_cons];omega
   exact this _
  have h2:=hsub.length_le
  have h3:=erL_len Ls (fun l hl=>(hsz l hl).1) 0
  have h4:=hE.length_eq
  rw [List.length_map] at h1
  omega
theorem outs_len2 (T:List V):2 * (outs T).length<=T.length+1:=by
 induction T using outs.induct with
 | case1=>simp [outs]
 | case2 x=>simp [outs]
 | case3 x y r ih=>rw [outs,List.length_cons,List.length_cons,List.length_cons];omega
theorem NT.sound {T:List V} {k:Nat} (h:NT T k):(outs T).all soundS=true:=by
 rw [List.all_eq_true]
 intro s hs
 have hv:∀x y o,vFrom (spV x y o)=⟨x.major,x.minor,x.patch,x.pre,[]⟩:=fun x y o=>by simp [vFrom,spV]
 have hw:∀x y o,vTo (spV x y o)=⟨y.major,y.minor,y.patch,y.pre,[]⟩:=fun x y o=>by simp [vTo,spV]
 rcases outs_mem T s hs with ⟨x,hx,rfl⟩ | ⟨x,hx,y,hy,rfl⟩
 ·unfold soundS
  rw [hv]
  have:=h.sd x hx
  unfold okT at this
  rw [this];rfl
 ·unfold soundS
  rw [hv,hw]
  have h1:=h.sd x hx
  have h2:=h.sd y hy
  unfold okT at h1 h2
  rw [h1,h2];rfl
set_option linter.unusedVariables false
structure Pa where
 n:Nat
 a:Int
 b:Int
 c:Int
 pre:List UInt8
structure Te where
 sign:Int
 p:Pa
structure PaOk (p:Pa):Prop where
 n3:p.n<=3
 a0:0<=p.a/\p.a<=999999999
 b0:0<=p.b/\p.b<=999999999
 c0:0<=p.c/\p.c<=999999999
 z1:p.n < 1->p.a=0
 z2:p.n < 2->p.b=0
 z3:p.n < 3->p.c=0/\p.pre=[]
 ok:okParts true p.pre=true
def lowV:V:=⟨0,0,0,[48]⟩
def nilV:V:=⟨0,0,0,[]⟩
def paV (p:Pa):V:=⟨p.a,p.b,p.c,p.pre⟩
def firstV (p:Pa):V:=⟨p.a,p.b,p.c,if p.n < 3 then [48] else p.pre⟩
def namedB (p:Pa) (v:V):Bool:=if p.n=3 then decide (verC (paV p) v=0) else (decide (p.n < 1) || decide (v.major=p.a)) && (decide (p.n < 2) || decide (v.minor=p.b))
def placeB (p:Pa) (v:V):Int:=if (namedB p v || decide (p.n=0))=true then 0 else verC v (paV p)
def fromB (p:Pa) (v:V):Bool:=decide (p.n=0) || decide (verC (firstV p) v<=0)
def leadsB (p:Pa) (v:V):Bool :=
 if p.n=0 then true else if v.major ≠ p.a then false else if 0 < p.a\/p.n=1 then true else if v.minor ≠ p.b then false else (decide (0 < p.b) || decide (p.n=2)) || decide (v.patch=p.c)
def admB (t:Te) (v:V):Bool :=
 if t.sign=0 then namedB t.p v else if t.sign=1 then decide (0<=placeB t.p v) else if t.sign=2 then decide (placeB t.p v<=0) else if t.sign=3 then decide (0 < placeB t.p v)
 else if t.sign=4 then decide (placeB t.p v < 0) else if t.sign=5 then fromB t.p v && leadsB t.p v
 else if t.sign=6 then (fromB t.p v && (decide (t.p.n < 1) || decide (v.major=t.p.a))) && (decide (t.p.n < 2) || decide (v.minor=t.p.b)) else fromB t.p v
def behindV (v:V) (k:Nat):V:=if k=1 then ⟨v.major+1,0,0,[48]⟩ else if k=2 then ⟨v.major,v.minor+1,0,[48]⟩ else ⟨v.major,v.minor,v.patch+1,[48]⟩
def alikeG (p:Pa) (k:Nat):Sg:=if k=0 then ⟨firstV p,nilV,true⟩ else ⟨firstV p,behindV (firstV p) k,false⟩
def namedG (p:Pa):Sg:=if p.n=3 then ⟨firstV p,nextV (firstV p),false⟩ else alikeG p p.n
def leadN (p:Pa):Nat:=if p.a ≠ 0 then 1 else if p.b ≠ 0 then 2 else if p.c ≠ 0 then 3 else p.n
def signG (s:Int) (p:Pa):Sg :=
 if s=0 then namedG p else if s=1 then ⟨firstV p,nilV,true⟩ else if s=2 then ⟨lowV,(namedG p).to_,(namedG p).op⟩
 else if s=3 then (if (namedG p).op=true then ⟨lowV,lowV,false⟩ else ⟨(namedG p).to_,nilV,true⟩) else if s=4 then ⟨lowV,firstV p,false⟩
 else if s=5 then alikeG p (leadN p) else alikeG p (min p.n 2)
def betweenG (p q:Pa):Sg:=⟨firstV p,(namedG q).to_,(namedG q).op⟩
theorem lt_iff (x y:V):verC x y < 0 ↔ x.major < y.major\/(x.major=y.major/\(x.minor < y.minor\/(x.minor=y.minor/\(x.patch < y.patch\/(x.patch=y.patch/\preC x.pre y.pre < 0))))):=by
 rw [verC_eq]
 have c1:∀a b:Int,Lib.compareInt a b=0 ↔ a=b:=fun a b=>cmp_zero
 have c2:∀a b:Int,Lib.compareInt a b < 0 ↔ a < b:=fun a b=>by
  unfold Lib.compareInt
  repeat' split
  all_goals omega
 split
 ·rename_i h;rw [c1] at h
  split
  ·rename_i h2;rw [c1] at h2
   split
   ·rename_i h3;rw [c1] at h3;omega
   ·rename_i h3;rw [c1] at h3;rw [c2];omega
  ·rename_i h2;rw [c1] at h2;rw [c2];omega
 ·rename_i h;rw [c1] at h;rw [c2];omega
theorem le_iff (x y:V):verC x y<=0 ↔ ¬ verC y x < 0:=by have:=v_anti x y;omega
theorem pre_low (l:List UInt8):¬ preC l [48] < 0:=by
 have h1:=pre_zero l
 have h2:=good_pre.anti [48] l
 omega
structure VOk (v:V):Prop where
 n1:0<=v.major
 n2:0<=v.minor
 n3:0<=v.patch
 ok:okParts true v.pre=true
theorem next_iff (f v:V) (h:f.patch < 4611686018427387904):verC v (nextV f) < 0 ↔ verC v f<=0:=by
 constructor
 ·intro hn
  by_cases hc:verC v f<=0
  ·exact hc
  ·exact (none_between f v h (by have:=v_anti v f;omega) hn).elim
 ·intro hc
  exact v_le_lt hc (by have:=next_behind f h;omega)
theorem low_lt (v:V) (a b c:Int):verC v ⟨a,b,c,[48]⟩ < 0 ↔ v.major < a\/(v.major=a/\(v.minor < b\/(v.minor=b/\v.patch < c))):=by
 rw [lt_iff]
 have:=pre_low v.pre
 simp only []
 omega
theorem has_iff (s:Sg) (v:V):hasG s v=true ↔ ¬ verC v s.fr < 0/\(s.op=true\/verC v s.to_ < 0):=by
 unfold hasG
 rw [Bool.and_eq_true,Bool.or_eq_true,decide_eq_true_eq,decide_eq_true_eq,le_iff]
theorem low_all (v:V) (hv:VOk v):¬ verC v lowV < 0:=by
 unfold lowV
 rw [low_lt]
 have:=hv.n1;have:=hv.n2;have:=hv.n3
 omega
theorem named_ok (p:Pa) (hp:PaOk p) (v:V) (hv:VOk v):hasG (namedG p) v=namedB p v:=by
 obtain ⟨n,a,b,c,pre⟩:=p
 obtain ⟨n3,a0,b0,c0,z1,z2,z3,ok⟩:=hp
 simp only at n3 a0 b0 c0 z1 z2 z3 ok
 have v1:=hv.n1
 have v2:=hv.n2
 have v3:=hv.n3
 have hn:n=0\/n=1\/n=2\/n=3:=by omega
 rw [Bool.eq_iff_iff,has_iff]
 rcases hn with rfl | rfl | rfl | rfl
 ·simp [namedG,alikeG,namedB,firstV,low_lt,z1,z2,z3]
  omega
 ·simp [namedG,alikeG,namedB,firstV,behindV,low_lt,z2,z3]
  omega
 ·simp [namedG,alikeG,namedB,firstV,behindV,low_lt,z3]
  omega
 ·have hG:namedG ⟨3,a,b,c,pre⟩=⟨⟨a,b,c,pre⟩,nextV ⟨a,b,c,pre⟩,false⟩:=rfl
  have hB:namedB ⟨3,a,b,c,pre⟩ v=decide (verC (⟨a,b,c,pre⟩:V) v=0):=rfl
  rw [hG,hB,decide_eq_true_eq]
  simp only []
  rw [next_iff _ _ (by simp only [];omega)]
  have:=v_anti (⟨a,b,c,pre⟩:V) v
  constructor
  ·rintro ⟨h1,h2⟩
   rcases h2 with h2 | h2
   ·cases h2
   ·omega
  ·intro h
   exact ⟨by omega,Or.inr (by omega)⟩
theorem place_ok (p:Pa) (hp:PaOk p) (v:V) (hv:VOk v):(placeB p v < 0 ↔ verC v (firstV p) < 0)/\(0 < placeB p v ↔ (namedG p).op=false/\¬ verC v (namedG p).to_ < 0):=by
 obtain ⟨n,a,b,c,pre⟩:=p
 obtain ⟨n3,a0,b0,c0,z1,z2,z3,ok⟩:=hp
 simp only at n3 a0 b0 c0 z1 z2 z3 ok
 have v1:=hv.n1
 have v2:=hv.n2
 have v3:=hv.n3
 have hn:n=0\/n=1\/n=2\/n=3:=by omega
 rcases hn with rfl | rfl | rfl | rfl
 ·simp [namedG,alikeG,placeB,firstV,low_lt,z1,z2,z3]
  omega
 ·have hc:=(z3 (by omega)).1
  have hp:=(z3 (by omega)).2
  have hb:=z2 (by omega)
  subst hc hp hb
  have l1:=lt_iff v ⟨a,0,0,[]⟩
  have l2:=lt_iff ⟨a,0,0,[]⟩ v
  have l3:=v_anti v ⟨a,0,0,[]⟩
  simp only at l1 l2
  have k1:=low_lt v a 0 0
  have k2:=low_lt v (a+1) 0 0
  have hG:namedG ⟨1,a,0,0,[]⟩=⟨⟨a,0,0,[48]⟩,⟨a+1,0,0,[48]⟩,false⟩:=rfl
  have hF:firstV ⟨1,a,0,0,[]⟩=⟨a,0,0,[48]⟩:=rfl
  have hP:placeB ⟨1,a,0,0,[]⟩ v=if v.major=a then 0 else verC v ⟨a,0,0,[]⟩:=by
   unfold placeB namedB paV
   by_cases hm:v.major=a <;> simp [hm]
  by_cases hm:v.major=a
  ·rw [if_pos hm] at hP
   simp only [hG,hF,hP,eq_self,true_and];omega
  ·rw [if_neg hm] at hP
   simp only [hG,hF,hP,eq_self,true_and];omega
 ·have hc:=(z3 (by omega)).1
  have hp:=(z3 (by omega)).2
  subst hc hp
  have l1:=lt_iff v ⟨a,b,0,[]⟩
  have l2:=lt_iff ⟨a,b,0,[]⟩ v
  have l3:=v_anti v ⟨a,b,0,[]⟩
  simp only at l1 l2
  have k1:=low_lt v a b 0
  have k2:=low_lt v a (b+1) 0
  have hG:namedG ⟨2,a,b,0,[]⟩=⟨⟨a,b,0,[48]⟩,⟨a,b+1,0,[48]⟩,false⟩:=rfl
  have hF:firstV ⟨2,a,b,0,[]⟩=⟨a,b,0,[48]⟩:=rfl
  have hP:placeB ⟨2,a,b,0,[]⟩ v=if v.major=a/\v.minor=b then 0 else verC v ⟨a,b,0,[]⟩:=by
   unfold placeB namedB paV
   by_cases hm:v.major=a <;> by_cases hm2:v.minor=b <;> simp [hm,hm2]
  by_cases hm:v.major=a/\v.minor=b
  ·rw [if_pos hm] at hP
   simp only [hG,hF,hP,eq_self,true_and];omega
  ·rw [if_neg hm] at hP
   simp only [hG,hF,hP,eq_self,true_and];omega
 ·have l3:=v_anti (⟨a,b,c,pre⟩:V) v
  have hG:namedG ⟨3,a,b,c,pre⟩=⟨⟨a,b,c,pre⟩,nextV ⟨a,b,c,pre⟩,false⟩:=rfl
  have hF:firstV ⟨3,a,b,c,pre⟩=⟨a,b,c,pre⟩:=rfl
  have hP:placeB ⟨3,a,b,c,pre⟩ v=if verC (⟨a,b,c,pre⟩:V) v=0 then 0 else verC v ⟨a,b,c,pre⟩:=by
   unfold placeB namedB paV
   by_cases hm:verC (⟨a,b,c,pre⟩:V) v=0 <;> simp [hm]
  have hx:=next_iff ⟨a,b,c,pre⟩ v (by simp only [];omega)
  by_cases h0:verC (⟨a,b,c,pre⟩:V) v=0
  ·rw [if_pos h0] at hP
   simp only [hG,hF,hP,hx,eq_self,true_and];omega
  ·rw [if_neg h0] at hP
   simp only [hG,hF,hP,hx,eq_self,true_and];omega
theorem alike_ok (p:Pa) (hp:PaOk p) (k:Nat) (hk:k<=3) (v:V) (hv:VOk v) (h1:k=1->True) (hz:(k < 2->p.b=0\/True)) :
  hasG (alikeG p k) v=true ↔ ¬ verC v (firstV p) < 0/\(k=0\/(k=1/\v.major < p.a+1)\/(k=2/\(v.major < p.a\/(v.major=p.a/\v.minor < p.b+1)))\/(k=3/\(v.major < p.a\/(v.major=p.a/\(v.minor < p.b\/(v.minor=p.b/\v.patch < p.c+1)))))):=by
 rw [has_iff]
 have v1:=hv.n1
 have v2:=hv.n2
 have v3:=hv.n3
 have hn:k=0\/k=1\/k=2\/k=3:=by omega
 rcases hn with rfl | rfl | rfl | rfl
 ·simp [alikeG]
 ·have e:alikeG p 1=⟨firstV p,⟨p.a+1,0,0,[48]⟩,false⟩:=rfl
  have k1:=low_lt v (p.a+1) 0 0
  rw [e];simp only []
  simp
  omega
 ·have e:alikeG p 2=⟨firstV p,⟨p.a,p.b+1,0,[48]⟩,false⟩:=rfl
  have k1:=low_lt v p.a (p.b+1) 0
  rw [e];simp only []
  simp
  omega
 ·have e:alikeG p 3=⟨firstV p,⟨p.a,p.b,p.c+1,[48]⟩,false⟩:=rfl
  have k1:=low_lt v p.a p.b (p.c+1)
  rw [e];simp only []
  simp
  omega
theorem first_nums (p:Pa) (v:V) (h:¬ verC v (firstV p) < 0):p.a < v.major\/(p.a=v.major/\(p.b < v.minor\/(p.b=v.minor/\p.c<=v.patch))):=by
 have l1:=lt_iff v (firstV p)
 have e1:(firstV p).major=p.a:=rfl
 have e2:(firstV p).minor=p.b:=rfl
 have e3:(firstV p).patch=p.c:=rfl
 rw [e1,e2,e3] at l1
 omega
theorem from_ok (p:Pa) (hp:PaOk p) (v:V) (hv:VOk v):fromB p v=true ↔ ¬ verC v (firstV p) < 0:=by
 unfold fromB
 rw [Bool.or_eq_true,decide_eq_true_eq,decide_eq_true_eq,le_iff]
 constructor
 ·rintro (h | h)
  ·have e:firstV p=⟨0,0,0,[48]⟩:=by
    unfold firstV
    rw [if_pos (by omega),hp.z1 (by omega),hp.z2 (by omega),(hp.z3 (by omega)).1]
   rw [e]
   exact low_all v hv
  ·exact h
 ·exact Or.inr
theorem sign_ok (s:Int) (hs:0<=s/\s<=6) (p:Pa) (hp:PaOk p) (v:V) (hv:VOk v):hasG (signG s p) v=admB ⟨s,p⟩ v:=by
 have hl:=low_all v hv
 have hpl:=place_ok p hp v hv
 have hss:s=0\/s=1\/s=2\/s=3\/s=4\/s=5\/s=6:=by omega
 rcases hss with rfl | rfl | rfl | rfl | rfl | rfl | rfl
 ·exact named_ok p hp v hv
 ·rw [Bool.eq_iff_iff,has_iff]
  show (¬ verC v (firstV p) < 0/\(true=true\/_)) ↔ decide (0<=placeB p v)=true
  rw [decide_eq_true_eq]
  simp only [true_or,and_true]
  omega
 ·rw [Bool.eq_iff_iff,has_iff]
  show (¬ verC v lowV < 0/\((namedG p).op=true\/verC v (namedG p).to_ < 0)) ↔ decide (placeB p v<=0)=true
  rw [decide_eq_true_eq]
  cases hop:(namedG p).op with
  | true =>
   rw [hop] at hpl
   simp only [Bool.true_eq_false,false_and,iff_false] at hpl
   simp only [true_or,and_true]
   exact ⟨fun _=>by omega,fun _=>hl⟩
  | false =>
   rw [hop] at hpl
   simp only [eq_self,true_and] at hpl
   simp only [Bool.false_eq_true,false_or]
   omega
 ·show hasG (if (namedG p).op=true then ⟨lowV,lowV,false⟩ else ⟨(namedG p).to_,nilV,true⟩) v=decide (0 < placeB p v)
  rw [Bool.eq_iff_iff,decide_eq_true_eq]
  cases hop:(namedG p).op with
  | true =>
   rw [hop] at hpl
   simp only [Bool.true_eq_false,false_and,iff_false] at hpl
   rw [if_pos rfl,has_iff]
   simp only [Bool.false_eq_true,false_or]
   omega
  | false =>
   rw [hop] at hpl
   simp only [eq_self,true_and] at hpl
   rw [if_neg (by decide),has_iff]
   simp only [true_or,and_true]
   omega
 ·rw [Bool.eq_iff_iff,has_iff]
  show (¬ verC v lowV < 0/\(false=true\/verC v (firstV p) < 0)) ↔ decide (placeB p v < 0)=true
  rw [decide_eq_true_eq]
  simp only [Bool.false_eq_true,false_or]
  omega
 ·show hasG (alikeG p (leadN p)) v=(fromB p v && leadsB p v)
  have n3:=hp.n3
  have a0:=hp.a0
  have b0:=hp.b0
  have c0:=hp.c0
  have z1:=hp.z1
  have z2:=hp.z2
  have z3:=hp.z3
  rw [Bool.eq_iff_iff,Bool.and_eq_true,from_ok p hp v hv,alike_ok p hp (leadN p) (by unfold leadN;split;omega;split;omega;split;omega;exact n3) v hv (fun _=>trivial) (fun _=>Or.inr trivial)]
  refine and_congr_right fun hf=>?_
  have hn:=first_nums p v hf
  unfold leadN leadsB
  by_cases h0:p.n=0
  ·have e1:=z1 (by omega)
   have e2:=z2 (by omega)
   have e3:=(z3 (by omega)).1
   simp [h0,e1,e2,e3]
  ·rw [if_neg h0]
   by_cases ha:p.a=0
   ·by_cases hb:p.b=0
    ·by_cases hc:p.c=0
     ·simp only [ha,hb,hc,ne_eq,not_true_eq_false,if_false]
      by_cases hm:v.major=0
      ·by_cases h1:p.n=1
       ·simp [hm,h1] <;> omega
       ·by_cases hm2:v.minor=0
        ·by_cases h2:p.n=2
         ·simp [hm,hm2,h2] <;> omega
         ·simp [hm,hm2,h1,h2] <;> omega
        ·simp [hm,hm2,h1] <;> omega
      ·simp [hm] <;> omega
     ·simp only [ha,hb,hc,ne_eq,not_true_eq_false,if_false,not_false_eq_true,if_true]
      by_cases hm:v.major=0
      ·by_cases hm2:v.minor=0
       ·have h3:p.n=3:=by omega
        simp [hm,hm2,h3] <;> omega
       ·have h3:p.n=3:=by omega
        simp [hm,hm2,h3] <;> omega
      ·simp [hm] <;> omega
    ·simp only [ha,hb,ne_eq,not_true_eq_false,if_false,not_false_eq_true,if_true]
     have h3:¬ p.n=1:=by omega
     by_cases hm:v.major=0
     ·by_cases hm2:v.minor=p.b
      ·simp [hm,hm2,h3] <;> omega
      ·simp [hm,hm2,h3] <;> omega
     ·simp [hm] <;> omega
   ·simp only [ha,ne_eq,not_false_eq_true,if_true]
    by_cases hm:v.major=p.a
    ·simp [hm] <;> omega
    ·simp [hm] <;> omega
 ·show hasG (alikeG p (min p.n 2)) v=((fromB p v && (decide (p.n < 1) || decide (v.major=p.a))) && (decide (p.n < 2) || decide (v.minor=p.b)))
  have n3:=hp.n3
  have z1:=hp.z1
  have z2:=hp.z2
  rw [Bool.eq_iff_iff,Bool.and_eq_true,Bool.and_eq_true,and_assoc,from_ok p hp v hv,alike_ok p hp (min p.n 2) (by omega) v hv (fun _=>trivial) (fun _=>Or.inr trivial)]
  refine and_congr_right fun hf=>?_
  have hn:=first_nums p v hf
  simp only [Bool.or_eq_true,decide_eq_true_eq]
  omega
theorem between_ok (p q:Pa) (hp:PaOk p) (hq:PaOk q) (v:V) (hv:VOk v):hasG (betweenG p q) v=(admB ⟨7,p⟩ v && admB ⟨2,q⟩ v):=by
 have h2:=sign_ok 2 (by decide) q hq v hv
 rw [<-h2]
 show _=(fromB p v && _)
 rw [Bool.eq_iff_iff,Bool.and_eq_true,from_ok p hp v hv,has_iff,has_iff]
 show (¬ verC v (firstV p) < 0/\_) ↔ (¬ verC v (firstV p) < 0/\(¬ verC v lowV < 0/\((namedG q).op=true\/verC v (namedG q).to_ < 0)))
 have hl:=low_all v hv
 constructor
 ·rintro ⟨h1,h2⟩
  exact ⟨h1,hl,h2⟩
 ·rintro ⟨h1,_,h2⟩
  exact ⟨h1,h2⟩
set_option linter.unusedVariables false
def isSp (c:UInt8):Bool:=decide (c=32)
def wildAt (l:List UInt8) (i:Nat):Bool:=decide (l[i]?=some 42) || (decide (l[i]?=some 120) || decide (l[i]?=some 88))
def pa0:Pa:=⟨0,0,0,0,[]⟩
def pa3 (l:List UInt8) (j:Nat) (a b c:Int):Int × Nat × Pa :=
 if (tailP l j).1=0 then (0,(tailP l j).2.1,⟨3,a,b,c,(tailP l j).2.2.1⟩) else ((tailP l j).1,(tailP l j).2.1,pa0)
def pa2 (l:List UInt8) (j:Nat) (a b:Int):Int × Nat × Pa :=
 if l[j]?=some 46 then (if wildAt l (j+1)=true then (0,j+2,⟨2,a,b,0,[]⟩) else if (rdNum l (j+1)).1=0 then pa3 l (rdNum l (j+1)).2.2 a b (rdNum l (j+1)).2.1 else ((rdNum l (j+1)).1,(rdNum l (j+1)).2.2,pa0))
 else (0,j,⟨2,a,b,0,[]⟩)
def pa1 (l:List UInt8) (j:Nat) (a:Int):Int × Nat × Pa :=
 if l[j]?=some 46 then (if wildAt l (j+1)=true then (0,j+2,⟨1,a,0,0,[]⟩) else if (rdNum l (j+1)).1=0 then pa2 l (rdNum l (j+1)).2.2 a (rdNum l (j+1)).2.1 else ((rdNum l (j+1)).1,(rdNum l (j+1)).2.2,pa0))
 else (0,j,⟨1,a,0,0,[]⟩)
def rdPa (l:List UInt8) (i:Nat):Int × Nat × Pa :=
 if wildAt l i=true then (0,i+1,pa0) else if (rdNum l i).1=0 then pa1 l (rdNum l i).2.2 (rdNum l i).2.1 else ((rdNum l i).1,(rdNum l i).2.2,pa0)
def rdSign (l:List UInt8) (i:Nat):Int × Nat :=
 if l[i]?=some 62 then (if l[i+1]?=some 61 then (1,i+2) else (3,i+1))
 else if l[i]?=some 60 then (if l[i+1]?=some 61 then (2,i+2) else (4,i+1))
 else if l[i]?=some 61 then (0,i+1) else if l[i]?=some 94 then (5,i+1) else if l[i]?=some 126 then (6,i+1) else (-1,i)
def barsAt (l:List UInt8) (i:Nat):Bool:=decide (l[i]?=some 124) && decide (l[i+1]?=some 124)
def endsAt (l:List UInt8) (i:Nat):Bool:=decide (l.length<=i) || barsAt l i
def skipW (l:List UInt8) (i:Nat):Nat:=i+runN isSp l i
def signOr (s:Int):Int:=if s < 0 then 0 else s
def dset (l:List UInt8):Nat->Nat->List Te->Int × Nat × List Te
 | 0,i,acc=>(0,i,acc)
 | f+1,i,acc =>
  if endsAt l i=true then (0,i,acc) else
  if (rdPa l (rdSign l i).2).1=0 then
   (if ((rdSign l i).1 < 0/\acc=[])/\(rdPa l (rdSign l i).2).2.1 < skipW l (rdPa l (rdSign l i).2).2.1/\l[skipW l (rdPa l (rdSign l i).2).2.1]?=some 45 then
    (if skipW l (skipW l (rdPa l (rdSign l i).2).2.1+1)=skipW l (rdPa l (rdSign l i).2).2.1+1 then (2,skipW l (rdPa l (rdSign l i).2).2.1+1,acc) else
    if (rdPa l (skipW l (skipW l (rdPa l (rdSign l i).2).2.1+1))).1=0 then
     (if endsAt l (skipW l (rdPa l (skipW l (skipW l (rdPa l (rdSign l i).2).2.1+1))).2.1)=true then (0,skipW l (rdPa l (skipW l (skipW l (rdPa l (rdSign l i).2).2.1+1))).2.1,[⟨7,(rdPa l (rdSign l i).2).2.2⟩,⟨2,(rdPa l (skipW l (skipW l (rdPa l (rdSign l i).2).2.1+1))).2.2⟩])
     else (2,skipW l (rdPa l (skipW l (skipW l (rdPa l (rdSign l i).2).2.1+1))).2.1,acc))
    else ((rdPa l (skipW l (skipW l (rdPa l (rdSign l i).2).2.1+1))).1,(rdPa l (skipW l (skipW l (rdPa l (rdSign l i).2).2.1+1))).2.1,acc))
   else if ¬ (rdPa l (rdSign l i).2).2.1 < skipW l (rdPa l (rdSign l i).2).2.1/\¬ endsAt l (skipW l (rdPa l (rdSign l i).2).2.1)=true then (2,skipW l (rdPa l (rdSign l i).2).2.1,acc)
   else dset l f (skipW l (rdPa l (rdSign l i).2).2.1) (acc++[⟨signOr (rdSign l i).1,(rdPa l (rdSign l i).2).2.2⟩]))
  else ((rdPa l (rdSign l i).2).1,(rdPa l (rdSign l i).2).2.1,acc)
def pset (l:List UInt8):Nat->Nat->List Te->Int × Nat × List Te
 | 0,i,acc=>(0,i,acc)
 | f+1,i,acc =>
  if l.length<=i\/l[i]?=some 124 then (0,i,acc) else
  if (rdPa l (rdSign l i).2).1=0 then
   (if ((rdSign l i).1 < 0/\acc=[])/\(rdPa l (rdSign l i).2).2.1 < skipW l (rdPa l (rdSign l i).2).2.1/\l[skipW l (rdPa l (rdSign l i).2).2.1]?=some 45 then
    (if skipW l (skipW l (rdPa l (rdSign l i).2).2.1+1)=skipW l (rdPa l (rdSign l i).2).2.1+1 then (2,skipW l (rdPa l (rdSign l i).2).2.1+1,acc) else
    if (rdPa l (skipW l (skipW l (rdPa l (rdSign l i).2).2.1+1))).1=0 then (0,(rdPa l (skipW l (skipW l (rdPa l (rdSign l i).2).2.1+1))).2.1,[⟨7,(rdPa l (rdSign l i).2).2.2⟩,⟨2,(rdPa l (skipW l (skipW l (rdPa l (rdSign l i).2).2.1+1))).2.2⟩])
    else ((rdPa l (skipW l (skipW l (rdPa l (rdSign l i).2).2.1+1))).1,(rdPa l (skipW l (skipW l (rdPa l (rdSign l i).2).2.1+1))).2.1,acc))
   else if ¬ (rdPa l (rdSign l i).2).2.1 < skipW l (rdPa l (rdSign l i).2).2.1 then (0,skipW l (rdPa l (rdSign l i).2).2.1,acc++[⟨signOr (rdSign l i).1,(rdPa l (rdSign l i).2).2.2⟩])
   else pset l f (skipW l (rdPa l (rdSign l i).2).2.1) (acc++[⟨signOr (rdSign l i).1,(rdPa l (rdSign l i).2).2.2⟩]))
  else ((rdPa l (rdSign l i).2).1,(rdPa l (rdSign l i).2).2.1,acc)
def after (l:List UInt8) (r:Int × Nat × List Te):Int × Nat × List Te :=
 if r.1=0 then (if endsAt l (skipW l r.2.1)=true then (0,skipW l r.2.1,r.2.2) else (2,skipW l r.2.1,r.2.2)) else r
theorem skip_ge (l:List UInt8) (i:Nat):i<=skipW l i:=by unfold skipW;omega
theorem skip_stop (l:List UInt8) (i:Nat) (h:i<=l.length):skipW l (skipW l i)=skipW l i:=by
 unfold skipW
 have:runN isSp l (i+runN isSp l i)=0:=runN_eq isSp l _ 0 (Nat.zero_le _) (fun hlt=>by
  have:=runN_stop isSp l i (by simpa using hlt)
  simpa using this)
 omega
def same (x y:Int × Nat × List Te):Prop:=x.1=y.1/\x.2.1=y.2.1/\(x.1=0->x.2.2=y.2.2)
theorem bar_pa (l:List UInt8) (i:Nat) (h:l[i]?=some 124):rdSign l i=(-1,i)/\(rdPa l i).1=2/\(rdPa l i).2.1=i:=by
 have hs:rdSign l i=(-1,i):=by unfold rdSign;simp [h]
 have hw:wildAt l i=false:=by unfold wildAt;simp [h]
 have hr:runN isD l i=0:=runN_eq isD l i 0 (Nat.zero_le _) (fun hlt=>by
  have:l[i+0]'hlt=124:=by
   have:=List.getElem?_eq_some_iff.1 h
   obtain ⟨_,e⟩:=this
   simpa using e
  rw [this];decide)
 have hn:rdNum l i=(2,0,i):=by unfold rdNum;rw [if_pos hr]
 refine ⟨hs,?_,?_⟩
 ·unfold rdPa;rw [hw,hn];rfl
 ·unfold rdPa;rw [hw,hn];rfl
theorem num_pos (l:List UInt8) (i:Nat) (hi:i<=l.length) (h:(rdNum l i).1=0):i < (rdNum l i).2.2/\(rdNum l i).2.2<=l.length:=by
 have hr:=runN_le isD l i hi
 unfold rdNum at h ⊢
 split at h
 ·simp at h
 ·rename_i h1
  split at h
  ·simp at h
  ·rename_i h2
   split at h
   ·simp at h
   ·rename_i h3
    rw [if_neg h1,if_neg h2,if_neg h3]
    simp only []
    omega
theorem opt_pos (c:UInt8) (st:Bool) (l:List UInt8) (i:Nat) (hi:i<=l.length) (h:(optP c st l i).1=0):i<=(optP c st l i).2.1/\(optP c st l i).2.1<=l.length:=by
 refine ⟨?_,opt_le hi h⟩
 by_cases hc:l[i]?=some c
 ·rw [opt_yes hc] at h ⊢
  simp only at h ⊢
  have hlt:=(List.getElem?_eq_some_iff.1 hc).1
  have:=(parts_take st l _ (i+1) rfl (by omega) h).1
  omega
 ·rw [opt_no hc];simp
theorem tail_pos (l:List UInt8) (i:Nat) (hi:i<=l.length) (h:(tailP l i).1=0):i<=(tailP l i).2.1/\(tailP l i).2.1<=l.length:=by
 unfold tailP at h ⊢
 by_cases h1:(optP 45 true l i).1=0
 ·rw [if_pos h1] at h ⊢
  have p1:=opt_pos 45 true l i hi h1
  by_cases h2:(optP 43 false l (optP 45 true l i).2.1).1=0
  ·rw [if_pos h2] at h ⊢
   have p2:=opt_pos 43 false l _ p1.2 h2
   simp only []
   omega
  ·rw [if_neg h2] at h
   exact absurd h h2
 ·rw [if_neg h1] at h
  exact absurd h h1
theorem dot_lt {l:List UInt8} {j:Nat} {c:UInt8} (h:l[j]?=some c):j < l.length:=(List.getElem?_eq_some_iff.1 h).1
theorem wild_lt {l:List UInt8} {i:Nat} (h:wildAt l i=true):i < l.length:=by
 unfold wildAt at h
 simp only [Bool.or_eq_true,decide_eq_true_eq] at h
 rcases h with h | h | h <;> exact dot_lt h
theorem pa3_pos (l:List UInt8) (j:Nat) (a b c:Int) (hj:j<=l.length) (h:(pa3 l j a b c).1=0):j<=(pa3 l j a b c).2.1/\(pa3 l j a b c).2.1<=l.length:=by
 unfold pa3 at h ⊢
 by_cases h1:(tailP l j).1=0
 ·rw [if_pos h1];exact tail_pos l j hj h1
 ·rw [if_neg h1] at h;exact absurd h h1
theorem pa2_pos (l:List UInt8) (j:Nat) (a b:Int) (hj:j<=l.length) (h:(pa2 l j a b).1=0):j<=(pa2 l j a b).2.1/\(pa2 l j a b).2.1<=l.length:=by
 unfold pa2 at h ⊢
 by_cases h1:l[j]?=some 46
 ·have hl:=dot_lt h1
  rw [if_pos h1] at h ⊢
  by_cases h2:wildAt l (j+1)=true
  ·have:=wild_lt h2
   rw [if_pos h2];simp only [];omega
  ·rw [if_neg h2] at h ⊢
   by_cases h3:(rdNum l (j+1)).1=0
   ·have p1:=num_pos l (j+1) (by omega) h3
    rw [if_pos h3] at h ⊢
    have p2:=pa3_pos l _ a b _ p1.2 h
    omega
   ·rw [if_neg h3] at h;exact absurd h h3
 ·rw [if_neg h1];simp only [];omega
theorem pa1_pos (l:List UInt8) (j:Nat) (a:Int) (hj:j<=l.length) (h:(pa1 l j a).1=0):j<=(pa1 l j a).2.1/\(pa1 l j a).2.1<=l.length:=by
 unfold pa1 at h ⊢
 by_cases h1:l[j]?=some 46
 ·have hl:=dot_lt h1
  rw [if_pos h1] at h ⊢
  by_cases h2:wildAt l (j+1)=true
  ·have:=wild_lt h2
   rw [if_pos h2];simp only [];omega
  ·rw [if_neg h2] at h ⊢
   by_cases h3:(rdNum l (j+1)).1=0
   ·have p1:=num_pos l (j+1) (by omega) h3
    rw [if_pos h3] at h ⊢
    have p2:=pa2_pos l _ a _ p1.2 h
    omega
   ·rw [if_neg h3] at h;exact absurd h h3
 ·rw [if_neg h1];simp only [];omega
theorem pa_pos (l:List UInt8) (i:Nat) (hi:i<=l.length) (h:(rdPa l i).1=0):i < (rdPa l i).2.1/\(rdPa l i).2.1<=l.length:=by
 unfold rdPa at h ⊢
 by_cases h2:wildAt l i=true
 ·have:=wild_lt h2
  rw [if_pos h2];simp only [];omega
 ·rw [if_neg h2] at h ⊢
  by_cases h3:(rdNum l i).1=0
  ·have p1:=num_pos l i hi h3
   rw [if_pos h3] at h ⊢
   have p2:=pa1_pos l _ _ p1.2 h
   omega
  ·rw [if_neg h3] at h;exact absurd h h3
theorem sign_pos (l:List UInt8) (i:Nat) (hi:i<=l.length):i<=(rdSign l i).2/\(rdSign l i).2<=l.length:=by
 unfold rdSign
 repeat' split
 all_goals simp only []
 ·rename_i h1 h2;have:=dot_lt h2;omega
 ·rename_i h1 h2;have:=dot_lt h1;omega
 ·rename_i h0 h1 h2;have:=dot_lt h2;omega
 ·rename_i h0 h1 h2;have:=dot_lt h1;omega
 ·rename_i h;have:=dot_lt h;omega
 ·rename_i h;have:=dot_lt h;omega
 ·rename_i h;have:=dot_lt h;omega
 ·omega
theorem skip_le (l:List UInt8) (i:Nat) (hi:i<=l.length):skipW l i<=l.length:=runN_le isSp l i hi
theorem set_same (l:List UInt8):∀(f i:Nat) (acc:List Te),l.length < f+i->i<=l.length->skipW l i=i->same (after l (pset l f i acc)) (dset l f i acc)
 | 0,i,acc,hf,hi,_=>by omega
 | f+1,i,acc,hf,hi,hsk=>by
  by_cases he:endsAt l i=true
  ·have hp:l.length<=i\/l[i]?=some 124:=by
    unfold endsAt barsAt at he
    simp only [Bool.or_eq_true,Bool.and_eq_true,decide_eq_true_eq] at he
    rcases he with h | h
    ·exact Or.inl h
    ·exact Or.inr h.1
   have e1:pset l (f+1) i acc=(0,i,acc):=by unfold pset;rw [if_pos hp]
   have e2:dset l (f+1) i acc=(0,i,acc):=by unfold dset;rw [if_pos he]
   rw [e1,e2]
   unfold after
   simp only [if_true,hsk,he]
   exact ⟨rfl,rfl,fun _=>rfl⟩
  ·by_cases hb:l[i]?=some 124
   ·obtain ⟨b1,b2,b3⟩:=bar_pa l i hb
    have e1:pset l (f+1) i acc=(0,i,acc):=by unfold pset;rw [if_pos (Or.inr hb)]
    have e2:dset l (f+1) i acc=(2,i,acc):=by
     unfold dset
     rw [if_neg he,b1]
     simp only []
     rw [b2,if_neg (by decide),b3]
    rw [e1,e2]
    unfold after
    simp only [if_true,hsk,if_neg he]
    exact ⟨rfl,rfl,fun h=>by cases h⟩
   ·have hnl:¬ l.length<=i:=by
     intro h
     apply he
     unfold endsAt
     simp [h]
    have hnp:¬ (l.length<=i\/l[i]?=some 124):=fun h=>h.elim hnl hb
    have sp:=sign_pos l i hi
    unfold pset dset
    rw [if_neg hnp,if_neg he]
    by_cases hr:(rdPa l (rdSign l i).2).1=0
    ·have pp:=pa_pos l _ sp.2 hr
     have hkl:=skip_le l _ pp.2
     have hkg:=skip_ge l (rdPa l (rdSign l i).2).2.1
     rw [if_pos hr,if_pos hr]
     by_cases hbt:((rdSign l i).1 < 0/\acc=[])/\(rdPa l (rdSign l i).2).2.1 < skipW l (rdPa l (rdSign l i).2).2.1/\l[skipW l (rdPa l (rdSign l i).2).2.1]?=some 45
     ·rw [if_pos hbt,if_pos hbt]
      by_cases hm:skipW l (skipW l (rdPa l (rdSign l i).2).2.1+1)=skipW l (rdPa l (rdSign l i).2).2.1+1
      ·rw [if_pos hm,if_pos hm]
       unfold after
       rw [if_neg (by simp)]
       exact ⟨rfl,rfl,fun h=>by cases h⟩
      ·rw [if_neg hm,if_neg hm]
       by_cases hq:(rdPa l (skipW l (skipW l (rdPa l (rdSign l i).2).2.1+1))).1=0
       ·rw [if_pos hq,if_pos hq]
        unfold after
        simp only [if_true]
        by_cases hz:endsAt l (skipW l (rdPa l (skipW l (skipW l (rdPa l (rdSign l i).2).2.1+1))).2.1)=true
        ·rw [if_pos hz,if_pos hz];exact ⟨rfl,rfl,fun _=>rfl⟩
        ·rw [if_neg hz,if_neg hz];exact ⟨rfl,rfl,fun h=>by cases h⟩
       ·rw [if_neg hq,if_neg hq]
        unfold after
        rw [if_neg hq]
        exact ⟨rfl,rfl,fun h=>absurd h hq⟩
     ·rw [if_neg hbt,if_neg hbt]
      by_cases hg:(rdPa l (rdSign l i).2).2.1 < skipW l (rdPa l (rdSign l i).2).2.1
      ·rw [if_neg (not_not_intro hg),if_neg (fun h=>h.1 hg)]
       exact set_same l f _ _ (by omega) hkl (skip_stop l _ pp.2)
      ·rw [if_pos hg]
       unfold after
       simp only [if_true]
       rw [skip_stop l _ pp.2]
       by_cases hz:endsAt l (skipW l (rdPa l (rdSign l i).2).2.1)=true
       ·rw [if_pos hz,if_neg (fun h=>h.2 hz)]
        cases f with
        | zero=>omega
        | succ f =>
         have e2:dset l (f+1) (skipW l (rdPa l (rdSign l i).2).2.1) (acc++[⟨signOr (rdSign l i).1,(rdPa l (rdSign l i).2).2.2⟩])=(0,skipW l (rdPa l (rdSign l i).2).2.1,acc++[⟨signOr (rdSign l i).1,(rdPa l (rdSign l i).2).2.2⟩]):=by unfold dset;rw [if_pos hz]
         rw [e2]
         exact ⟨rfl,rfl,fun _=>rfl⟩
       ·rw [if_neg hz,if_pos ⟨hg,hz⟩]
        exact ⟨rfl,rfl,fun h=>by cases h⟩
    ·rw [if_neg hr,if_neg hr]
     unfold after
     rw [if_neg hr]
     exact ⟨rfl,rfl,fun h=>absurd h hr⟩
theorem num_val (l:List UInt8) (i:Nat) (h:(rdNum l i).1=0):0<=(rdNum l i).2.1/\(rdNum l i).2.1<=999999999:=by
 unfold rdNum at h ⊢
 split at h
 ·simp at h
 ·rename_i h1
  split at h
  ·simp at h
  ·rename_i h2
   split at h
   ·simp at h
   ·rename_i h3
    rw [if_neg h1,if_neg h2,if_neg h3]
    simp only []
    have:=val_nn (subT l i (runN isD l i)) (sub_all isD l i)
    omega
theorem opt_ok (c:UInt8) (st:Bool) (l:List UInt8) (i:Nat) (hi:i<=l.length) (h:(optP c st l i).1=0):okParts st (optP c st l i).2.2=true:=by
 unfold optP at h ⊢
 by_cases hc:l[i]?=some c
 ·rw [if_pos hc] at h ⊢
  have hlt:=dot_lt hc
  by_cases h2:(rdParts st l (i+1)).1=0
  ·rw [if_pos h2]
   have:=(parts_take st l _ (i+1) rfl (by omega) h2).2.2
   unfold okParts
   simp only []
   rw [this];simp
  ·rw [if_neg h2] at h;exact absurd h h2
 ·rw [if_neg hc];rfl
theorem tail_ok (l:List UInt8) (i:Nat) (hi:i<=l.length) (h:(tailP l i).1=0):okParts true (tailP l i).2.2.1=true:=by
 unfold tailP at h ⊢
 by_cases h1:(optP 45 true l i).1=0
 ·rw [if_pos h1] at h ⊢
  by_cases h2:(optP 43 false l (optP 45 true l i).2.1).1=0
  ·rw [if_pos h2]
   exact opt_ok 45 true l i hi h1
  ·rw [if_neg h2] at h
   exact absurd h h2
 ·rw [if_neg h1] at h
  exact absurd h h1
theorem pa0_ok:PaOk pa0:=⟨by decide,by decide,by decide,by decide,fun _=>rfl,fun _=>rfl,fun _=>⟨rfl,rfl⟩,rfl⟩
theorem pa2_ok (l:List UInt8) (j:Nat) (a b:Int) (hj:j<=l.length) (ha:0<=a/\a<=999999999) (hb:0<=b/\b<=999999999) (h:(pa2 l j a b).1=0):PaOk (pa2 l j a b).2.2:=by
 have base:PaOk ⟨2,a,b,0,[]⟩:=⟨by simp,ha,hb,by simp,fun h=>by simp at h,fun h=>by simp at h,fun _=>⟨rfl,rfl⟩,rfl⟩
 unfold pa2 at h ⊢
 by_cases h1:l[j]?=some 46
 ·have hl:=dot_lt h1
  rw [if_pos h1] at h ⊢
  by_cases h2:wildAt l (j+1)=true
  ·rw [if_pos h2];exact base
  ·rw [if_neg h2] at h ⊢
   by_cases h3:(rdNum l (j+1)).1=0
   ·have p1:=num_pos l (j+1) (by omega) h3
    have v1:=num_val l (j+1) h3
    rw [if_pos h3] at h ⊢
    unfold pa3 at h ⊢
    by_cases h4:(tailP l (rdNum l (j+1)).2.2).1=0
    ·rw [if_pos h4]
     exact ⟨by simp,ha,hb,v1,fun h=>by simp at h,fun h=>by simp at h,fun h=>by simp at h,tail_ok l _ p1.2 h4⟩
    ·rw [if_neg h4] at h;exact absurd h h4
   ·rw [if_neg h3] at h;exact absurd h h3
 ·rw [if_neg h1];exact base
theorem pa1_ok (l:List UInt8) (j:Nat) (a:Int) (hj:j<=l.length) (ha:0<=a/\a<=999999999) (h:(pa1 l j a).1=0):PaOk (pa1 l j a).2.2:=by
 have base:PaOk ⟨1,a,0,0,[]⟩:=⟨by simp,ha,by simp,by simp,fun h=>by simp at h,fun _=>rfl,fun _=>⟨rfl,rfl⟩,rfl⟩
 unfold pa1 at h ⊢
 by_cases h1:l[j]?=some 46
 ·have hl:=dot_lt h1
  rw [if_pos h1] at h ⊢
  by_cases h2:wildAt l (j+1)=true
  ·rw [if_pos h2];exact base
  ·rw [if_neg h2] at h ⊢
   by_cases h3:(rdNum l (j+1)).1=0
   ·have p1:=num_pos l (j+1) (by omega) h3
    rw [if_pos h3] at h ⊢
    exact pa2_ok l _ a _ p1.2 ha (num_val l (j+1) h3) h
   ·rw [if_neg h3] at h;exact absurd h h3
 ·rw [if_neg h1];exact base
theorem pa_ok (l:List UInt8) (i:Nat) (hi:i<=l.length) (h:(rdPa l i).1=0):PaOk (rdPa l i).2.2:=by
 unfold rdPa at h ⊢
 by_cases h2:wildAt l i=true
 ·rw [if_pos h2];exact pa0_ok
 ·rw [if_neg h2] at h ⊢
  by_cases h3:(rdNum l i).1=0
  ·have p1:=num_pos l i hi h3
   rw [if_pos h3] at h ⊢
   exact pa1_ok l _ _ p1.2 (num_val l i h3) h
  ·rw [if_neg h3] at h;exact absurd h h3
end Go.Proofs.YtfplkhnclmidnaaGreatDoor
