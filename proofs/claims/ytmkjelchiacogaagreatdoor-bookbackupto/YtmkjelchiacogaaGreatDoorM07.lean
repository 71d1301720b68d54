import Derived.Test.YtmkjelchiacogaaGreatDoorM06
import Derived.Shelf.Strconv.AtoiAll
import Derived.Test.YtmkjelchiacogaaGreatDoorProg
import Derived.Test.YtmkjelchiacogaaGreatDoorM02
import Derived.Lib.AtoiTie
import Derived.Deep.RegionHeld3
set_option linter.unusedVariables false
set_option linter.unusedSimpArgs false
set_option maxRecDepth 100000
set_option maxHeartbeats 6400000
open Go.Proofs.Tryz
namespace Go.Proofs.YtmkjelchiacogaaGreatDoor
open Go.RowKit Go.Joins
theorem BD(l:List UInt8):∀(f i j:Nat),i<=l.length->gap l f i=.ok j->i<=j/\j<=l.length:=by
 intro f
 induction f with
 | zero=>intro i j hi h;cases h
 | succ f ih =>
  intro i j hi h;rw[FC]at h;have h1:=lh l i hi;have h2:=AX l (bl l i) h1.2;split at h
  ·cases h
  ·split at h
   ·rename_i hx;have h3:=cZ (l:=l) (i:=(bi l (bl l i)).2) (by rw[hx];decide);have:=ih _ j (by omega) h;omega
   ·cases h
    omega
theorem Q5(l:List UInt8)(i:Nat)(n:Int)(j:Nat)(hi:i<l.length)(h:jR l i=.ok (n,j)):i<j/\j<=l.length:=by
 unfold jR at h;simp only[]at h;have ha:i<=(if ay (nx l i)=true then i else i+1)/\(if ay (nx l i)=true then i else i+1)<=l.length:=by split<;>omega
 generalize (if ay (nx l i)=true then i else i+1)=a at h ha;have hj:=rV ay l a ha.2;split at h
 ·cases h
 ·rename_i hn;split at h
  ·cases h
  ·have hne:¬toR ay l a=a:=fun e=>hn (Or.inl e)
   cases h
   omega
theorem Q7(l:List UInt8)(i:Nat)(n:Int)(j:Nat)(hi:i<=l.length)(h:mg l i=.ok (n,j)):i<j/\j<=l.length:=by
 rw[Jj]at h;have hj:=rV dh l i hi;have key:∀t:List UInt8,ah l i (toR dh l i-i)=t->t≠[]->i<toR dh l i:=fun t e ht=>by
  apply Classical.byContradiction;intro hn;apply ht;rw[<-e];unfold ah;rw[show toR dh l i-i=0 by omega];simp
 split at h
 ·rename_i e;have:=key _ e (by simp)
  cases h
  omega
 ·split at h
  ·rename_i e;have:=key _ e (by simp)
   cases h
   omega
  ·cases h
structure Ad(ns ns':List Tn)(own:List Nat)(i j n:Nat):Prop where
 wf:WF ns' own
 wt:WT ns'
 lo:ns.length<=ns'.length
 hi:ns'.length+i<=ns.length+j
 kd:∀q,q<ns.length->ag ns' q=ag ns q
 fw:i<j
 en:j<=n
theorem BF{ns:List Tn}{own:List Nat}{up i j n:Nat}{x:Tn}(W:WF ns own)(V:WT ns)(hu:up<ns.length)(h2:¬ag ns up=2)(hx:x.ks=[])(hk:¬x.kd=2)(hij:i<j)(hjn:j<=n):Ad ns (addN ns up x) own i j n :=
 ⟨rW ns own up x hx hu W,JE ns own W up x hu V hk (Or.inl h2),by rw[bV];omega,by rw[bV];omega,fun q hq=>by rw[eH ns up x hu,if_neg (by omega)],hij,hjn⟩
theorem Ad.trans{a b c:List Tn}{own:List Nat}{i j k n:Nat}(h:Ad a b own i j n)(h':Ad b c own j k n):Ad a c own i k n :=
 ⟨h'.wf,h'.wt,Nat.le_trans h.lo h'.lo,by have:=h.hi;have:=h'.hi;omega,fun q hq=>(h'.kd q (Nat.lt_of_lt_of_le hq h.lo)).trans (h.kd q hq),Nat.lt_trans h.fw h'.fw,h'.en⟩
theorem Ad.wide{a b:List Tn}{own:List Nat}{i i' j j' n:Nat}(h:Ad a b own i j n)(hi:i'<=i)(hj:j<=j')(hn:j'<=n):Ad a b own i' j' n :=
 ⟨h.wf,h.wt,h.lo,by have:=h.hi;omega,h.kd,by have:=h.fw;omega,hn⟩
theorem x9(l:List UInt8)(f i up:Nat)(k:List UInt8)(p d:Nat)(ns:List Tn):val l (f+1) i up k p d ns =
  if nx l i=34 then(match str l (l.length+1) (i+1) [] with | .error e=>.error e | .ok (t,j)=>.ok (j,addN ns up ⟨3,k,t,0,[],p⟩))
  else if nx l i=43\/nx l i=45\/ay (nx l i)=true then(match jR l i with | .error e=>.error e | .ok (n,j)=>.ok (j,addN ns up ⟨4,k,[],n,[],p⟩))
  else if nx l i=116\/nx l i=102 then(match mg l i with | .error e=>.error e | .ok (n,j)=>.ok (j,addN ns up ⟨5,k,[],n,[],p⟩))
  else if nx l i=91 then(if d=8 then .error (4,i) else lst l f (i+1) ns.length (d+1) (addN ns up ⟨1,k,[],0,[],p⟩))
  else .error (2,i):=by
 rw[val];rfl
theorem zG(l:List UInt8)(f i up d:Nat)(ns:List Tn):lst l (f+1) i up d ns =
  match gap l (l.length+1) i with
  | .error e=>.error e
  | .ok j =>
   if nx l j=93 then .ok (j+1,ns)
   else match val l f j up [] j d ns with
    | .error e=>.error e
    | .ok (j1,ns1)=>match gap l (l.length+1) j1 with
     | .error e=>.error e
     | .ok j2=>if nx l j2=44 then lst l f (j2+1) up d ns1 else if nx l j2=93 then .ok (j2+1,ns1) else .error (2,j2):=by
 rw[lst];rfl
theorem JJ(l:List UInt8)(own:List Nat):∀f:Nat,(∀i up k p d ns j ns',i<=l.length->WF ns own->WT ns->up<ns.length->¬ag ns up=2->val l f i up k p d ns=.ok (j,ns')->Ad ns ns' own i j l.length)/\(∀i up d ns j ns',i<=l.length->WF ns own->WT ns->up<ns.length->¬ag ns up=2->lst l f i up d ns=.ok (j,ns')->WF ns' own/\WT ns'/\ns.length<=ns'.length/\ns'.length+i<=ns.length+j/\(∀q,q<ns.length->ag ns' q=ag ns q)/\i<j/\j<=l.length):=by
 intro f
 induction f with
 | zero =>
  refine⟨fun i up k p d ns j ns' _ _ _ _ _ h=>?_,fun i up d ns j ns' _ _ _ _ _ h=>?_⟩
  ·rw[val]at h;cases h
  ·rw[lst]at h;cases h
 | succ f ih =>
  refine⟨fun i up k p d ns j ns' hi W V hu h2 h=>?_,fun i up d ns j ns' hi W V hu h2 h=>?_⟩
  ·rw[x9]at h;split at h
   ·rename_i hx;have hlt:=cZ (l:=l) (i:=i) (by rw[hx];decide)
    cases hs:str l (l.length+1) (i+1) [] with
    | error e=>rw[hs]at h;cases h
    | ok q =>
     obtain⟨t,j'⟩:=q;rw[hs]at h;obtain⟨a,b,-⟩:=F9 l _ (i+1) [] t j' (by omega) hs
     cases h
     exact BF W V hu h2 rfl (fun e=>absurd (show(3:Int)=2 from e) (by decide)) (by omega) b
   ·split at h
    ·rename_i hx;have hlt:i<l.length:=by
      apply cZ
      rcases hx with hx|hx|hx
      ·rw[hx];decide
      ·rw[hx];decide
      ·have:=of_decide_eq_true hx;omega
     cases hs:jR l i with
     | error e=>rw[hs]at h;cases h
     | ok q =>
      obtain⟨t,j'⟩:=q;rw[hs]at h;obtain⟨a,b⟩:=Q5 l i t j' hlt hs
      cases h
      exact BF W V hu h2 rfl (fun e=>absurd (show(4:Int)=2 from e) (by decide)) a b
    ·split at h
     ·cases hs:mg l i with
      | error e=>rw[hs]at h;cases h
      | ok q =>
       obtain⟨t,j'⟩:=q;rw[hs]at h;obtain⟨a,b⟩:=Q7 l i t j' hi hs
       cases h
       exact BF W V hu h2 rfl (fun e=>absurd (show(5:Int)=2 from e) (by decide)) a b
     ·split at h
      ·rename_i hx;have hlt:=cZ (l:=l) (i:=i) (by rw[hx];decide);split at h
       ·cases h
       ·have A:=BF (i:=i) (j:=i+1) (n:=l.length) (x:=⟨1,k,[],0,[],p⟩) W V hu h2 rfl (fun e=>absurd (show(1:Int)=2 from e) (by decide)) (by omega) (by omega);obtain⟨a1,a2,a3,a4,a5,a6,a7⟩:=ih.2 (i+1) ns.length (d+1) _ j ns' (by omega) A.wf A.wt (by rw[bV];omega) (by rw[eH ns up _ hu,if_pos rfl];exact fun e=>absurd (show(1:Int)=2 from e) (by decide)) h;have e1:=A.hi;have e2:=A.lo;exact⟨a1,a2,by omega,by omega,fun q hq=>(a5 q (by omega)).trans (A.kd q hq),by omega,a7⟩
      ·cases h
  ·rw[zG]at h
   cases hg:gap l (l.length+1) i with
   | error e=>rw[hg]at h;cases h
   | ok j0 =>
    rw[hg]at h;simp only[]at h;obtain⟨g1,g2⟩:=BD l _ i j0 hi hg;split at h
    ·rename_i hx;have hlt:=cZ (l:=l) (i:=j0) (by rw[hx];decide)
     cases h
     exact⟨W,V,Nat.le_refl _,by omega,fun _ _=>rfl,by omega,by omega⟩
    ·cases hv:val l f j0 up [] j0 d ns with
     | error e=>rw[hv]at h;cases h
     | ok q =>
      obtain⟨j1,ns1⟩:=q;rw[hv]at h;simp only[]at h;have A:=ih.1 j0 up [] j0 d ns j1 ns1 g2 W V hu h2 hv;have e1:=A.hi;have e2:=A.lo;have e3:=A.fw;have e4:=A.en
      cases hg2:gap l (l.length+1) j1 with
      | error e=>rw[hg2]at h;cases h
      | ok j2 =>
       rw[hg2]at h;simp only[]at h;obtain⟨g3,g4⟩:=BD l _ j1 j2 A.en hg2;split at h
       ·rename_i hx;have hlt:=cZ (l:=l) (i:=j2) (by rw[hx];decide);obtain⟨a1,a2,a3,a4,a5,a6,a7⟩:=ih.2 (j2+1) up d ns1 j ns' (by omega) A.wf A.wt (by omega) (by rw[A.kd up hu];exact h2) h;exact⟨a1,a2,by omega,by omega,fun q hq=>(a5 q (by omega)).trans (A.kd q hq),by omega,a7⟩
       ·split at h
        ·rename_i hx;have hlt:=cZ (l:=l) (i:=j2) (by rw[hx];decide)
         cases h
         exact⟨A.wf,A.wt,A.lo,by omega,A.kd,by omega,by omega⟩
        ·cases h
end Go.Proofs.YtmkjelchiacogaaGreatDoor
namespace Go.Proofs
open Go.Shelf
def Tryz.lays172_ren:Go.Shelf.Ren:=⟨fun|129=>148|171=>31|172=>205|205=>254|243=>63|244=>229|245=>230|246=>103|247=>244|279=>245|280=>246|281=>247|282=>248|283=>149|284=>150|285=>151|286=>152|287=>253|316=>204|317=>184|318=>185|319=>186|320=>187|321=>255|322=>256|337=>221|338=>222|n=>n,fun|22=>263|24=>169|25=>170|27=>66|28=>88|31=>41|32=>172|33=>118|35=>219|37=>69|40=>312|41=>127|42=>220|43=>218|46=>176|47=>175|48=>132|49=>351|51=>235|52=>234|53=>237|54=>236|55=>258|67=>125|69=>75|70=>68|71=>70|72=>71|73=>112|74=>49|75=>50|76=>72|77=>73|78=>161|79=>283|80=>77|81=>140|83=>74|84=>178|85=>318|86=>319|94=>165|100=>179|101=>56|102=>57|103=>171|104=>78|105=>284|106=>285|108=>328|111=>141|112=>221|114=>270|119=>313|126=>303|127=>126|128=>304|131=>59|135=>243|137=>314|138=>315|139=>316|143=>330|144=>331|145=>332|164=>143|165=>177|166=>279|167=>317|168=>320|169=>321|170=>322|171=>238|172=>239|173=>240|174=>241|175=>324|176=>325|182=>228|183=>229|188=>274|189=>275|190=>276|191=>277|192=>278|209=>326|210=>327|211=>271|212=>272|213=>273|214=>329|218=>264|219=>265|220=>266|222=>268|224=>300|225=>301|228=>297|229=>298|231=>311|232=>309|233=>310|238=>333|239=>334|240=>335|241=>336|242=>337|243=>339|244=>151|245=>340|246=>341|247=>342|248=>343|249=>344|n=>n,fun|1=>7|3=>10|4=>11|15=>12|16=>13|17=>6|18=>8|19=>9|n=>n⟩
theorem Tryz.lays172:Go.Proofs.LaysC.n172 prog Tryz.lays172_ren:={
 mixed:=by kernel_rfl
 f129:=func148.trans (congrArg some (by kernel_rfl))
 f171:=func31.trans (congrArg some (by kernel_rfl))
 f172:=func205.trans (congrArg some (by kernel_rfl))
 f205:=func254.trans (congrArg some (by kernel_rfl))
 f243:=func63.trans (congrArg some (by kernel_rfl))
 f244:=func229.trans (congrArg some (by kernel_rfl))
 f245:=func230.trans (congrArg some (by kernel_rfl))
 f246:=func103.trans (congrArg some (by kernel_rfl))
 f247:=func244.trans (congrArg some (by kernel_rfl))
 f279:=func245.trans (congrArg some (by kernel_rfl))
 f280:=func246.trans (congrArg some (by kernel_rfl))
 f281:=func247.trans (congrArg some (by kernel_rfl))
 f282:=func248.trans (congrArg some (by kernel_rfl))
 f283:=func149.trans (congrArg some (by kernel_rfl))
 f284:=func150.trans (congrArg some (by kernel_rfl))
 f285:=func151.trans (congrArg some (by kernel_rfl))
 f286:=func152.trans (congrArg some (by kernel_rfl))
 f287:=func253.trans (congrArg some (by kernel_rfl))
 f316:=func204.trans (congrArg some (by kernel_rfl))
 f317:=func184.trans (congrArg some (by kernel_rfl))
 f318:=func185.trans (congrArg some (by kernel_rfl))
 f319:=func186.trans (congrArg some (by kernel_rfl))
 f320:=func187.trans (congrArg some (by kernel_rfl))
 f321:=func255.trans (congrArg some (by kernel_rfl))
 f322:=func256.trans (congrArg some (by kernel_rfl))
 f337:=func221.trans (congrArg some (by kernel_rfl))
 f338:=func222.trans (congrArg some (by kernel_rfl))
 t0:=underlying0
 a0:=isAgg0
 z0:=sizeOf0
 v0:=zeroValue0
 t2:=underlying2
 a2:=isAgg2
 z2:=sizeOf2
 v2:=zeroValue2
 t3:=underlying3
 a3:=isAgg3
 z3:=sizeOf3
 v3:=zeroValue3
 t4:=underlying4
 a4:=isAgg4
 z4:=sizeOf4
 v4:=zeroValue4
 t5:=underlying5
 a5:=isAgg5
 z5:=sizeOf5
 v5:=zeroValue5
 t9:=underlying9
 a9:=isAgg9
 z9:=sizeOf9
 v9:=zeroValue9
 t20:=underlying20
 a20:=isAgg20
 z20:=sizeOf20
 v20:=zeroValue20
 t21:=underlying21
 a21:=isAgg21
 z21:=sizeOf21
 v21:=zeroValue21
 t37:=underlying69
 a37:=isAgg69
 z37:=sizeOf69
 v37:=zeroValue69
 t46:=underlying176
 a46:=isAgg176
 z46:=sizeOf176
 v46:=zeroValue176
 t51:=underlying235
 a51:=isAgg235
 z51:=sizeOf235
 v51:=zeroValue235
 t53:=underlying237
 a53:=isAgg237
 z53:=sizeOf237
 v53:=zeroValue237
 t75:=underlying50
 a75:=isAgg50
 z75:=sizeOf50
 v75:=zeroValue50
 t76:=underlying72
 a76:=isAgg72
 z76:=sizeOf72
 v76:=zeroValue72
 t85:=underlying318
 a85:=isAgg318
 z85:=sizeOf318
 v85:=zeroValue318
 t127:=underlying126
 a127:=isAgg126
 z127:=sizeOf126
 v127:=zeroValue126
 t143:=underlying330
 a143:=isAgg330
 z143:=sizeOf330
 v143:=zeroValue330
 t145:=underlying332
 a145:=isAgg332
 z145:=sizeOf332
 v145:=zeroValue332
 t167:=underlying317
 a167:=isAgg317
 z167:=sizeOf317
 v167:=zeroValue317
 t168:=underlying320
 a168:=isAgg320
 z168:=sizeOf320
 v168:=zeroValue320
 t171:=underlying238
 a171:=isAgg238
 z171:=sizeOf238
 v171:=zeroValue238
 t173:=underlying240
 a173:=isAgg240
 z173:=sizeOf240
 v173:=zeroValue240
 t175:=underlying324
 a175:=isAgg324
 z175:=sizeOf324
 v175:=zeroValue324
 t210:=underlying327
 a210:=isAgg327
 z210:=sizeOf327
 v210:=zeroValue327
 t212:=underlying272
 a212:=isAgg272
 z212:=sizeOf272
 v212:=zeroValue272
 t213:=underlying273
 a213:=isAgg273
 z213:=sizeOf273
 t232:=underlying309
 a232:=isAgg309
 z232:=sizeOf309
 v232:=zeroValue309
 t233:=underlying310
 a233:=isAgg310
 z233:=sizeOf310
 v233:=zeroValue310
 g15:=by kernel_rfl
 g16:=by kernel_rfl
 g17:=by kernel_rfl
 g18:=by kernel_rfl
 g19:=by kernel_rfl
 t80:=underlying77
 a80:=isAgg77
 z80:=sizeOf77
 v80:=zeroValue77
 i0:=by kernel_rfl
 i2:=by kernel_rfl
 i3:=by kernel_rfl
 i4:=by kernel_rfl
 i5:=by kernel_rfl
 i9:=by kernel_rfl
 i20:=by kernel_rfl
 i21:=by kernel_rfl
 i37:=by kernel_rfl
 i46:=by kernel_rfl
 i51:=by kernel_rfl
 i53:=by kernel_rfl
 i75:=by kernel_rfl
 i76:=by kernel_rfl
 i80:=by kernel_rfl
 i85:=by kernel_rfl
 i127:=by kernel_rfl
 i143:=by kernel_rfl
 i145:=by kernel_rfl
 i167:=by kernel_rfl
 i168:=by kernel_rfl
 i171:=by kernel_rfl
 i173:=by kernel_rfl
 i175:=by kernel_rfl
 i210:=by kernel_rfl
 i212:=by kernel_rfl
 i232:=by kernel_rfl
 i233:=by kernel_rfl
 m15:=by kernel_rfl
 m16:=by kernel_rfl
 m17:=by kernel_rfl
 m18:=by kernel_rfl
 m19:=by kernel_rfl
 c0:=by kernel_rfl
 c2:=by kernel_rfl
 c3:=by kernel_rfl
 c4:=by kernel_rfl
 c5:=by kernel_rfl
 c9:=by kernel_rfl
 c20:=by kernel_rfl
 c21:=by kernel_rfl
 c37:=by kernel_rfl
 c46:=by kernel_rfl
 c51:=by kernel_rfl
 c53:=by kernel_rfl
 c75:=by kernel_rfl
 c76:=by kernel_rfl
 c80:=by kernel_rfl
 c85:=by kernel_rfl
 c127:=by kernel_rfl
 c143:=by kernel_rfl
 c145:=by kernel_rfl
 c167:=by kernel_rfl
 c168:=by kernel_rfl
 c171:=by kernel_rfl
 c173:=by kernel_rfl
 c175:=by kernel_rfl
 c210:=by kernel_rfl
 c212:=by kernel_rfl
 c213:=by kernel_rfl
 c232:=by kernel_rfl
 c233:=by kernel_rfl }
end Go.Proofs
namespace Go.Proofs.YtmkjelchiacogaaGreatDoor
open Go.RowKit Go.Joins
theorem aaw:∀(d:List UInt8) (n:Nat),(∀c∈d,ay (c.toNat:Int)=true)->Lib.decFrom n d=some (gu d n):=by
 intro d
 induction d with
 | nil=>intro n _;rfl
 | cons c r ih =>
  intro n h;have hc:=of_decide_eq_true (h c (by simp));have h1:48<=c.toNat/\c.toNat<=57:=by omega
  have e:Lib.digitVal c=some (c.toNat - 48):=by unfold Lib.digitVal;rw[if_pos h1]
  have:=ih (10*n+(c.toNat - 48)) (fun x hx=>h x (by simp[hx]));show(match Lib.digitVal c with|some d=>Lib.decFrom (n*10+d) r|none=>none)=some (gu r (10*n+(c.toNat - 48)));rw[e,<-this,Nat.mul_comm 10 n]
theorem JK(d:List UInt8)(hd:d≠[])(h:∀c∈d,ay (c.toNat:Int)=true):Lib.decNat d=some (gu d 0):=by
 unfold Lib.decNat
 cases d with
 | nil=>exact absurd rfl hd
 | cons c r=>simpa using aaw (c :: r) 0 h
theorem aax(d:List UInt8)(hd:d≠[])(hl:d.length<=18)(h:∀c∈d,ay (c.toNat:Int)=true):Lib.atoiAll d=.ok (gu d 0:Int):=by
 cases d with
 | nil=>exact absurd rfl hd
 | cons c r =>
  have hc:=of_decide_eq_true (h c (by simp));rw[Lib.atoiAll_plain c r (by omega) (by omega),Lib.signless_short hl,JK _ hd h];rfl
theorem aay(d:List UInt8)(hd:d≠[])(hl:d.length<=18)(h:∀c∈d,ay (c.toNat:Int)=true):Lib.atoiAll (43 :: d)=.ok (gu d 0:Int):=by
 rw[Lib.atoiAll_plus,Lib.signless_short hl,JK _ hd h];rfl
theorem aaz(d:List UInt8)(hd:d≠[])(hl:d.length<=18)(h:∀c∈d,ay (c.toNat:Int)=true):Lib.atoiAll (45 :: d)=.ok (-(gu d 0:Int)):=by
 rw[Lib.atoiAll_minus,Lib.signed_short hl,JK _ hd h];rfl
open Go.RowKit Go.Joins
theorem JL(p:Int->Bool)(l:List UInt8)(i:Nat):∀c∈ah l i (toR p l i-i),p (c.toNat:Int)=true:=by
 intro c hc;unfold ah toR runN at hc;rw[Nat.add_sub_cancel_left]at hc;have e:(l.drop i).take ((l.drop i).takeWhile (fun c=>p (c.toNat:Int))).length=(l.drop i).takeWhile (fun c=>p (c.toNat:Int)):=by
  have:=List.takeWhile_prefix (fun c:UInt8=>p (c.toNat:Int)) (l:=l.drop i);exact(List.prefix_iff_eq_take.1 this).symm
 rw[e]at hc;exact(List.all_takeWhile (p:=fun c:UInt8=>p (c.toNat:Int)) (l:=l.drop i) |> List.all_eq_true.1) c hc
theorem Q8(l:List UInt8)(i k:Nat)(h:i+k<=l.length):(ah l i k).length=k:=by
 unfold ah;rw[List.length_take,List.length_drop];omega
theorem Q9(l:List UInt8)(i k:Nat)(h:i<l.length):ah l i (k+1)=l[i] :: ah l (i+1) k:=by
 unfold ah;rw[List.drop_eq_getElem_cons h,List.take_succ_cons]
theorem aaA(l:List UInt8)(i a j:Nat)(hj:j<=l.length)(haj:a<j)(hall:∀c∈ah l a (j-a),ay (c.toNat:Int)=true)(h18:j-a<=18)
  (h:(ay (nx l i)=true/\a=i)\/((nx l i=43\/nx l i=45)/\a=i+1)) :
  Lib.atoiAll (ah l i (j-i))=.ok (if nx l i=45 then -(gu (ah l a (j-a)) 0:Int) else(gu (ah l a (j-a)) 0:Int)):=by
 have hlen:=Q8 l a (j-a) (by omega);have hne:ah l a (j-a)≠[]:=fun e=>by rw[e]at hlen;simp at hlen;omega
 rcases h with⟨h1,rfl⟩|⟨h1,rfl⟩
 ·rw[if_neg (fun e=>by rw[e]at h1;exact absurd h1 (by decide))];exact aax _ hne (by omega) hall
 ·have hil:i<l.length:=by omega
  have e:j-i=(j-(i+1))+1:=by omega
  rw[e,Q9 l i _ hil];have hx:=ug l i hil
  rcases h1 with h1|h1
  ·have:l[i]=43:=by
    apply UInt8.toNat_inj.1;have:(l[i].toNat:Int)=43:=by rw[<-hx];exact h1
    show l[i].toNat=43;omega
   rw[this,if_neg (by rw[h1];decide)];exact aay _ hne (by omega) hall
  ·have:l[i]=45:=by
    apply UInt8.toNat_inj.1;have:(l[i].toNat:Int)=45:=by rw[<-hx];exact h1
    show l[i].toNat=45;omega
   rw[this,if_pos h1];exact aaz _ hne (by omega) hall
open Go.RowKit Go.Joins
theorem aaB(w:World)(e:TypeId)(s:ByteArray):w.grownBy (Lib.bytesWorld w e s) none :=
 ⟨rfl,rfl,rfl,by rw[Lib.bytesWorld_size];omega,fun k hk _=>Lib.bytesWorld_at_old w e s k hk⟩
theorem aaC(x:List UInt8)(v:Int)(hx:x.length<=1048576)(h:Lib.atoiAll x=.ok v)(w:World) :
  Calls prog 205 #[.string ⟨x.toArray⟩] w fun e w'=>e=.returned (.tuple #[.int .i64 v,.nilIface])/\w.grownBy w' none:=by
 have hz:(⟨x.toArray⟩:ByteArray).size=x.length:=by show x.toArray.size=_;simp
 refine(Any.strconv_Atoi_ok Tryz.lays172 ⟨x.toArray⟩ (by rw[hz];omega) v (by simpa using h) w).mono ?_;rintro e w' ⟨rfl,rfl|⟨t,rfl⟩⟩
 ·exact⟨rfl,ai _ _⟩
 ·refine⟨rfl,?_⟩;exact aaB _ _ _
def fH(l:List UInt8)(i:Nat):Nat:=if ay (nx l i)=true then i else i+1
theorem aaD(l:List UInt8)(i:Nat):jR l i =
  if toR ay l (fH l i)=fH l i\/(1<toR ay l (fH l i)-fH l i/\nx l (fH l i)=48) then .error (2,fH l i)
  else if 18<toR ay l (fH l i)-fH l i then .error (3,i)
  else .ok (if nx l i=45 then -(gu (ah l (fH l i) (toR ay l (fH l i)-fH l i)) 0:Int) else(gu (ah l (fH l i) (toR ay l (fH l i)-fH l i)) 0:Int),toR ay l (fH l i)):=rfl
open Go.RowKit Go.Joins
theorem Gn(X:ByteArray):X.toList.length=X.size:=by rw[ByteArray.toList_eq];exact Array.length_toList
theorem aaE(R:Nat)(s:ByteArray)(i T:Nat)(E:Int->TypeId × Value)(w:World)(h:Rd w R s i T)(hs:s.size<=1048576)(he:Es w E)(hR:Far R)
  (hx:ay (nx s.data.toList i)=true\/nx s.data.toList i=43\/nx s.data.toList i=45) :
  Calls prog 167 #[.pointer (some ⟨R,0,none⟩)] w (AZ R s T E (jR s.data.toList i) w):=by
 have hl:s.data.toList.length=s.size:=by simp
 have hil:i<s.size:=by
  rw[<-hl]
  rcases hx with h|h|h
  ·have:=of_decide_eq_true h;exact cZ (by omega)
  ·exact cZ (by omega)
  ·exact cZ (by omega)
 have CN:Hd (∀k w,Rd w R s k T->k<=s.size->Calls prog 74 #[.pointer (some ⟨R,0,none⟩)] w fun e w'=>e=.returned (.int .i64 (nx s.data.toList k))/\w.grownBy w' none):=fun k w h1 h2=>mr R s k T w h1 h2 hs
 have CB:Hd (∀c w,Calls prog 120 #[.int .i64 c] w fun e w'=>e=.returned (.bool (ay c))/\w'=w):=Fj;have lD:Hd (∀p w,Calls prog 165 #[.iface (E 2).1 (E 2).2,.int .i64 (p:Nat)] w fun e w'=>(∃v,e=.returned v/\aF w' v E 2 p)/\w.grownBy w' none):=fun p w=>rZ p _ _ w
 have JM:Hd (∀p w,Calls prog 165 #[.iface (E 3).1 (E 3).2,.int .i64 (p:Nat)] w fun e w'=>(∃v,e=.returned v/\aF w' v E 3 p)/\w.grownBy w' none):=fun p w=>rZ p _ _ w
 have jK:Hd (∀w',w.grownBy w' (some R)->w'.cell? ⟨5,0,none⟩=some (.iface (E 2).1 (E 2).2)):=fun w' hg=>(he.grow hR hg).te
 have vM:Hd (∀w',w.grownBy w' (some R)->w'.cell? ⟨1,0,none⟩=some (.iface (E 3).1 (E 3).2)):=fun w' hg=>(he.grow hR hg).ra
 have CH:Hd (∀k w',w.grownBy w' (some R)->Rd w' R s k T->Calls prog 125 #[.pointer (some ⟨R,0,none⟩)] w' fun e w''=>(∃v,e=.returned v/\aF w'' v E 2 k)/\w'.grownBy w'' none):=fun k w' hg hr=>uU R s k T (E 2).1 (E 2).2 w' hr (he.grow hR hg).te
 obtain⟨ty2,Rf⟩:∃ty,(E 2).1=ty:=⟨_,rfl⟩;obtain⟨pv2,hpv2⟩:∃pv,(E 2).2=pv:=⟨_,rfl⟩;obtain⟨ty3,Rh⟩:∃ty,(E 3).1=ty:=⟨_,rfl⟩;obtain⟨pv3,sN⟩:∃pv,(E 3).2=pv:=⟨_,rfl⟩;rw[Rf,hpv2]at lD jK;rw[Rh,sN]at JM vM;have HST:Hd (∀k,k<s.size->ay (nx s.data.toList k)=true->toR ay s.data.toList k=toR ay s.data.toList (k+1)):=fun k hk hb=>AV ay _ k (by omega) hb
 have rY:Hd (∀k,ay (nx s.data.toList k)=false->toR ay s.data.toList k=k):=fun k hb=>xB ay _ k hb
 have dE:Hd (∀k,k<=s.size->ay (nx s.data.toList k)=true->k<s.size):=fun k hk hb=>by
  apply Classical.byContradiction;intro hn;rw[oq _ _ (by omega)]at hb;exact absurd hb (by decide)
 have BG:i<=fH s.data.toList i/\fH s.data.toList i<=s.size/\((ay (nx s.data.toList i)=true/\fH s.data.toList i=i)\/((nx s.data.toList i=43\/nx s.data.toList i=45)/\fH s.data.toList i=i+1)):=by
  unfold fH
  by_cases hd:ay (nx s.data.toList i)=true
  ·rw[if_pos hd];exact⟨by omega,by omega,Or.inl ⟨hd,rfl⟩⟩
  ·rw[if_neg hd];refine⟨by omega,by omega,Or.inr ⟨?_,rfl⟩⟩
   rcases hx with h|h
   ·exact absurd h hd
   ·exact h
 have hA1:Hd (fH s.data.toList i=if ay (nx s.data.toList i)=true then i else i+1):=rfl;have hjj:=rV ay s.data.toList (fH s.data.toList i) (by omega);rw[hl]at hjj;have hall:=JL ay s.data.toList (fH s.data.toList i);have ji:Hd (jR s.data.toList i=_):=aaD s.data.toList i;have hat:∀j,j<=s.size->fH s.data.toList i<j->(∀c∈ah s.data.toList (fH s.data.toList i) (j-fH s.data.toList i),ay (c.toNat:Int)=true)->j-fH s.data.toList i<=18->Lib.atoiAll (ah s.data.toList i (j-i))=.ok (if nx s.data.toList i=45 then -(gu (ah s.data.toList (fH s.data.toList i) (j-fH s.data.toList i)) 0:Int) else(gu (ah s.data.toList (fH s.data.toList i) (j-fH s.data.toList i)) 0:Int)):=fun j h1 h2 h3 h4=>aaA s.data.toList i _ j (by omega) h2 h3 h4 BG.2.2
 obtain⟨a,ha⟩:=zN (fH s.data.toList i);obtain⟨J,hJ⟩:=zN (toR ay s.data.toList a);rw[ha]at BG hA1 hjj hall ji hat;rw[hJ]at hjj hall ji;obtain⟨D,hD⟩:=zN (ah s.data.toList a (J-a));have hDl:D.length=J-a:=by rw[<-hD];exact Q8 _ _ _ (by omega)
 have hAt:a<J->J-a<=18->Lib.atoiAll (ah s.data.toList i (J-i))=.ok (if nx s.data.toList i=45 then -(gu D 0:Int) else(gu D 0:Int)):=fun h1 h2=>by
  have:=hat J hjj.2 h1 (by rw[hD];rw[hD]at hall;exact hall) h2;rw[hD]at this;exact this
 rw[hD]at ji;obtain⟨val,hval⟩:∃v,(if nx s.data.toList i=45 then -(gu D 0:Int) else(gu D 0:Int))=v:=⟨_,rfl⟩;rw[hval]at ji hAt;have HJ:Hd (toR ay s.data.toList a=J):=hJ;obtain⟨W,hW⟩:=zN (ah s.data.toList i (J-i));have Ri:W.length<=1048576:=by rw[<-hW];unfold ah;rw[List.length_take,List.length_drop];omega
 rw[hW]at hAt;have s1:∀wx,(Instr.slice 9 (.string s) (some (.int .i64 (a:Int))) (some (.int .i64 (J:Int))) none).run prog wx=.ok (.string ⟨D.toArray⟩) wx:=fun wx=>by rw[<-hD];exact qF s a J hjj.1 hjj.2 wx
 have s2:∀wx,(Instr.slice 9 (.string s) (some (.int .i64 (i:Int))) (some (.int .i64 (J:Int))) none).run prog wx=.ok (.string ⟨W.toArray⟩) wx:=fun wx=>by rw[<-hW];exact qF s i J (by omega) hjj.2 wx
 have CA:Hd (a<J->J-a<=18->∀w,Calls prog 205 #[.string ⟨W.toArray⟩] w fun e w'=>e=.returned (.tuple #[.int .i64 val,.nilIface])/\w.grownBy w' none):=fun h1 h2 w=>aaC W val Ri (hAt h1 h2) w
 have Rj:a<J->∃c r,D=c :: r/\(c.toNat:Int)=nx s.data.toList a:=fun h1=>by
  have hal:a<s.data.toList.length:=by omega
  refine⟨s.data.toList[a],ah s.data.toList (a+1) (J-a-1),?_,(ug s.data.toList a hal).symm⟩;rw[<-hD,show J-a=(J-a-1)+1 by omega];exact Q9 _ _ _ hal
 obtain⟨X,hX⟩:∃X:ByteArray,⟨D.toArray⟩=X:=⟨_,rfl⟩;obtain⟨Y,hY⟩:∃Y:ByteArray,⟨W.toArray⟩=Y:=⟨_,rfl⟩;have BH:X.toList=D:=by rw[<-hX,ByteArray.toList_eq]
 have eQ:X.size=J-a:=by rw[<-hX];show D.toArray.size=_;simp[hDl]
 have HX0:Hd (∀h:0<X.size,((X[0]'h).toNat:Int)=nx s.data.toList a):=fun h=>by
  obtain⟨c,r,e1,e2⟩:=Rj (by omega);subst hX;rw[<-e2];subst e1;rfl
 have HXY:Hd (a=i->Y=X):=fun e=>by rw[<-hX,<-hY,<-hD,<-hW,e]
 rw[hX]at s1;rw[hY]at s2 CA;obtain⟨G,hG⟩:=zN (jR s.data.toList i);rw[hG]at ji ⊢;obtain⟨hia,has,-⟩:=BG;obtain⟨haJ,hJs⟩:=hjj;obtain⟨z,hz⟩:=zN (nx s.data.toList a);rw[hz]at ji HX0;have pM:Hd (G=if J=a\/(1<J-a/\z=48) then .error (2,a) else if 18<J-a then .error (3,i) else .ok (val,J)):=ji.o;have H0:Hd (Rd w R s i T):=h;have C0:Hd (∀w',Rd w' R s i T->Calls prog 74 #[.pointer (some ⟨R,0,none⟩)] w' fun e w''=>e=.returned (.int .i64 (nx s.data.toList i))/\w'.grownBy w'' none):=fun w' h1=>CN.o i w' h1 (by omega)
 obtain⟨x,hxx⟩:=zN (nx s.data.toList i);rw[hxx]at C0 hA1;have zH:Hd (∀w,Calls prog 120 #[.int .i64 x] w fun e w'=>e=.returned (.bool (ay x))/\w'=w):=CB.o x;obtain⟨b0,hb0⟩:∃b,ay x=b:=⟨_,rfl⟩;rw[hb0]at zH hA1;obtain⟨c0,c1,-,-⟩:=h.cells;clear h hJ hG hD hval hW hX hY BH hxx hb0 hz hAt hat Rj hDl Ri hall ha ji Rf hpv2 Rh sN he hx hl;go_enter func167,ntmps167;go_wp2_with (go_at_call 74;refine(C0.o _ H0.o).mono ?_);rintro e w1 ⟨rfl,hg1⟩;have HR1:Hd (Rd w1 R s i T):=H0.o.grow hg1;have aB:Hd (w.grownBy w1 (some R)):=aI (ai w (some R)) hg1;obtain⟨-,e1,-,ef⟩:=HR1.o.cells;have ef1:=ef 1;have bK:Hd (Rd (w1.setCell ⟨R,1,none⟩ (.int .i64 ((i:Int)+1))) R s (i+1) T):=HR1.o.set (i+1);have uY:Hd (w.grownBy (w1.setCell ⟨R,1,none⟩ (.int .i64 ((i:Int)+1))) (some R)):=dD aB.o 1 _;clear hg1 ef c0 c1
 cases b0 with
 | true =>
  have HA:a=i:=by have:=hA1.o;rw[if_pos rfl]at this;exact this
  subst HA;have hXY:X=Y:=(HXY.o rfl).symm;subst hXY;go_wp2_with (go_at_call 120;refine(zH.o _).mono ?_;rintro e wZ ⟨rfl,rfl⟩);have JO:=HR1;have JP:=aB;go_loopw [] (fun wr=>∃k:Nat,Rd wr R s k T/\k<=s.size/\toR ay s.data.toList k=J/\w.grownBy wr (some R)) (fun wr=>s.size-(match wr.cell? ⟨R,1,none⟩ with|some (.int _ k)=>k.toNat|_=>0))
  case atStart=>exact⟨a,JO.o,by omega,HJ.o,JP.o⟩
  case round =>
   obtain⟨k,hrd,hk,hbl,hg⟩:=hrel;have bH:Hd (Rd wr R s k T):=hrd;have fP:Hd (toR ay s.data.toList k=J):=hbl;have HG:Hd (w.grownBy wr (some R)):=hg;have C1:Hd (Calls prog 74 #[.pointer (some ⟨R,0,none⟩)] wr fun e w'=>e=.returned (.int .i64 (nx s.data.toList k))/\wr.grownBy w' none):=CN.o k wr hrd hk;have jB:Hd ((match wr.cell? ⟨R,1,none⟩ with|some (.int _ k)=>k.toNat|_=>0)=k):=by show _=_;rw[hrd.cells.2.1];simp
   have eP:Hd (ay (nx s.data.toList k)=true->toR ay s.data.toList k=toR ay s.data.toList (k+1)):=fun hb=>HST.o k (dE.o k hk hb) hb
   have HS2:Hd (ay (nx s.data.toList k)=false->toR ay s.data.toList k=k):=rY.o k;have HL2:Hd (ay (nx s.data.toList k)=true->k<s.size):=dE.o k hk;obtain⟨c,hc⟩:=zN (nx s.data.toList k);rw[hc]at C1 eP HS2 HL2;have fC:Hd (∀w,Calls prog 120 #[.int .i64 c] w fun e w'=>e=.returned (.bool (ay c))/\w'=w):=fun w=>CB.o c w
   obtain⟨b,hb⟩:=zN (ay c);rw[hb]at fC eP HS2 HL2;clear hrd hbl hg hc hb
   cases b with
   | true =>
    have hkl:k<s.size:=HL2.o (by trivial);have HN:Hd (toR ay s.data.toList (k+1)=J):=(eP.o (by trivial)).symm.trans fP.o;go_wp2_with (first|(go_at_call 74;refine C1.o.mono ?_;rintro e w2 ⟨rfl,hg2⟩;obtain⟨-,d1,-,df⟩:=(bH.o.grow hg2).cells;have df1:=df 1)|(go_at_call 120;refine(fC.o _).mono ?_;rintro e w' ⟨rfl,rfl⟩));have fQ:Hd (Rd (w'.setCell ⟨R,1,none⟩ (.int .i64 ((k:Int)+1))) R s (k+1) T):=(bH.o.grow hg2).set (k+1);refine⟨⟨k+1,fQ.o,by omega,HN.o,dD (aI HG.o hg2) 1 _⟩,?_⟩;rw[jB.o,fQ.o.cells.2.1];simp;omega
   | false =>
    have uj:Hd (k=J):=(HS2.o (by trivial)).symm.trans fP.o;go_wp2_with (first|(go_at_call 74;refine C1.o.mono ?_;rintro e w2 ⟨rfl,hg2⟩)|(go_at_call 120;refine(fC.o _).mono ?_;rintro e w' ⟨rfl,rfl⟩));have HR2:Hd (Rd w' R s J T):=by rw[<-uj.o];exact bH.o.grow hg2
    have HG2:Hd (w.grownBy w' (some R)):=aI HG.o hg2;obtain⟨d0,d1,-,-⟩:=HR2.o.cells;have dte:=jK.o _ HG2.o;have dra:=vM.o _ HG2.o;clear hg2
    by_cases hJa:J=a
    ·have hbe:X.toList.isEmpty=true:=by
      have:X.toList.length=0:=by rw[Gn];omega
      rw[List.isEmpty_iff];exact List.length_eq_zero_iff.1 this
     have bC:Hd (G=.error (2,J)):=by
      show _=_;rw[pM.o,if_pos (Or.inl hJa),hJa]
     have xM:Hd (∀n,Calls prog 125 #[.pointer (some ⟨R,0,none⟩)] (w'.drewN n) fun e w''=>(∃v,e=.returned v/\aF w'' v E 2 J)/\(w'.drewN n).grownBy w'' none):=fun n=>CH.o J _ (au HG2.o n) HR2.o
     clear hJa;go_quiet (fail);go_wp2_with (go_at_call 125;refine(xM.o _).mono ?_;rintro e w3 ⟨⟨v,rfl,hv⟩,hg3⟩);refine bodyPost_ret (results_tmp2 (t:=2) (u:=3) rfl _ _ _) rfl ?_;rw[bC.o];exact⟨fun n j hh=>(by cases hh),fun c p hh=>(by cases hh;exact⟨v,rfl,hv,J,Rd.grow (w:=World.drewN w' _) HR2.o hg3⟩),aI (au HG2.o _) hg3⟩
    ·have hbe:X.toList.isEmpty=false:=by
      rw[Bool.eq_false_iff];intro hh;rw[List.isEmpty_iff]at hh;have:X.toList.length=0:=by rw[hh];rfl
      rw[Gn]at this;omega
     have hX0:0<X.size:=by omega
     have hz0:=HX0.o hX0;have JQ:a<J:=by omega
     by_cases hzz:z=48/\1<J-a
     ·have bC:Hd (G=.error (2,a)):=by
       show _=_;rw[pM.o,if_pos (Or.inr ⟨hzz.2,hzz.1⟩)]
      have hq1:(z == 48)=true:=by simp[hzz.1]
      have hq2:(1:Int)<(X.size:Int):=by omega
      clear hJa hzz;go_quiet (fail);go_wp2_with (go_at_call 165;refine(lD.o _ _).mono ?_;rintro e w3 ⟨⟨v,rfl,hv⟩,hg3⟩);refine bodyPost_ret (results_tmp2 (t:=2) (u:=3) rfl _ _ _) rfl ?_;rw[bC.o];exact⟨fun n j hh=>(by cases hh),fun c p hh=>(by cases hh;exact⟨v,rfl,hv,J,Rd.grow (w:=World.drewN w' _) HR2.o hg3⟩),aI (au HG2.o _) hg3⟩
     ·have aQ:Hd (G=if 18<J-a then .error (3,a) else .ok (val,J)):=by
       show _=_;rw[pM.o,if_neg (by rintro(h|h);exact hJa h;exact hzz ⟨h.2,h.1⟩)]
      have hcase:((z == 48)=true/\(X.size:Int)<=1)\/(z == 48)=false:=by
       by_cases h:z=48
       ·exact Or.inl ⟨by simp[h],by omega⟩
       ·exact Or.inr (by simp[h])
      clear hzz hJa
      by_cases h18:18<J-a
      ·have bC:Hd (G=.error (3,a)):=by show _=_;rw[aQ.o,if_pos h18]
       have hq2:(18:Int)<(X.size:Int):=by omega
       clear h18;go_quiet (fail)
       rcases hcase with⟨hq,hq3⟩|hq
       ·exfalso;omega
       ·go_wp2_with (go_at_call 165;refine(JM.o _ _).mono ?_;rintro e w3 ⟨⟨v,rfl,hv⟩,hg3⟩);refine bodyPost_ret (results_tmp2 (t:=2) (u:=3) rfl _ _ _) rfl ?_;rw[bC.o];exact⟨fun n j hh=>(by cases hh),fun c p hh=>(by cases hh;exact⟨v,rfl,hv,J,Rd.grow (w:=World.drewN w' _) HR2.o hg3⟩),aI (au HG2.o _) hg3⟩
      ·have bC:Hd (G=.ok (val,J)):=by show _=_;rw[aQ.o,if_neg h18]
       have hq2:(X.size:Int)<=18:=by omega
       have vG:Hd (∀w,Calls prog 205 #[.string X] w fun e w'=>e=.returned (.tuple #[.int .i64 val,.nilIface])/\w.grownBy w' none):=CA.o JQ (by omega);clear h18;go_quiet (fail)
       rcases hcase with⟨hq,hq3⟩|hq
       all_goals (
        go_wp2
        go_region_held3 (fun u=>u.cell? ⟨R,0,none⟩=some (.string s)/\u.cell? ⟨R,1,none⟩=some (.int .i64 (J:Int))) ((first|exact⟨World.grownBy.cell (by assumption) (And.left (by assumption)) (by simp),World.grownBy.cell (by assumption) (And.right (by assumption)) (by simp)⟩|go_keep)) (first|(go_at_call 205;refine(vG.o _).mono ?_;rintro e w6 ⟨rfl,bG⟩))
        have kN:w'.grownBy w6 none:=⟨bG.os,bG.tape,bG.output,bG.size,bG.block⟩;have fG:Hd (Rd w6 R s J T):=HR2.o.grow kN;have lS:Hd (w.grownBy w6 (some R)):=aI HG2.o kN;clear bG kN;go_wp2;refine bodyPost_ret (results_tmp2 (t:=2) (u:=3) rfl _ _ _) rfl ?_;rw[bC.o];exact⟨fun n j hh=>(by cases hh;exact⟨rfl,fG.o⟩),fun c p hh=>(by cases hh),lS.o⟩)
 | false =>
  have HA:Hd (a=i+1):=by have:=hA1.o;rw[if_neg (by decide)]at this;exact this
  have hai:(i:Int)+1=(a:Int):=by have:=HA.o;omega
  go_wp2_with (go_at_call 120;refine(zH.o _).mono ?_;rintro e wZ ⟨rfl,rfl⟩);have JO:Hd (Rd (wZ.setCell ⟨R,1,none⟩ (.int .i64 (a:Int))) R s a T):=by
   have:=bK.o;rw[hai,<-HA.o]at this;exact this
  have JP:Hd (w.grownBy (wZ.setCell ⟨R,1,none⟩ (.int .i64 (a:Int))) (some R)):=by
   have:=uY.o;rw[hai]at this;exact this
  try rw[hai]
  clear hai;go_loopw [] (fun wr=>∃k:Nat,Rd wr R s k T/\k<=s.size/\toR ay s.data.toList k=J/\w.grownBy wr (some R)) (fun wr=>s.size-(match wr.cell? ⟨R,1,none⟩ with|some (.int _ k)=>k.toNat|_=>0))
  case atStart=>exact⟨a,JO.o,by omega,HJ.o,JP.o⟩
  case round =>
   obtain⟨k,hrd,hk,hbl,hg⟩:=hrel;have bH:Hd (Rd wr R s k T):=hrd;have fP:Hd (toR ay s.data.toList k=J):=hbl;have HG:Hd (w.grownBy wr (some R)):=hg;have C1:Hd (Calls prog 74 #[.pointer (some ⟨R,0,none⟩)] wr fun e w'=>e=.returned (.int .i64 (nx s.data.toList k))/\wr.grownBy w' none):=CN.o k wr hrd hk;have jB:Hd ((match wr.cell? ⟨R,1,none⟩ with|some (.int _ k)=>k.toNat|_=>0)=k):=by show _=_;rw[hrd.cells.2.1];simp
   have eP:Hd (ay (nx s.data.toList k)=true->toR ay s.data.toList k=toR ay s.data.toList (k+1)):=fun hb=>HST.o k (dE.o k hk hb) hb
   have HS2:Hd (ay (nx s.data.toList k)=false->toR ay s.data.toList k=k):=rY.o k;have HL2:Hd (ay (nx s.data.toList k)=true->k<s.size):=dE.o k hk;obtain⟨c,hc⟩:=zN (nx s.data.toList k);rw[hc]at C1 eP HS2 HL2;have fC:Hd (∀w,Calls prog 120 #[.int .i64 c] w fun e w'=>e=.returned (.bool (ay c))/\w'=w):=fun w=>CB.o c w
   obtain⟨b,hb⟩:=zN (ay c);rw[hb]at fC eP HS2 HL2;clear hrd hbl hg hc hb
   cases b with
   | true =>
    have hkl:k<s.size:=HL2.o (by trivial);have HN:Hd (toR ay s.data.toList (k+1)=J):=(eP.o (by trivial)).symm.trans fP.o;go_wp2_with (first|(go_at_call 74;refine C1.o.mono ?_;rintro e w2 ⟨rfl,hg2⟩;obtain⟨-,d1,-,df⟩:=(bH.o.grow hg2).cells;have df1:=df 1)|(go_at_call 120;refine(fC.o _).mono ?_;rintro e w' ⟨rfl,rfl⟩));have fQ:Hd (Rd (w'.setCell ⟨R,1,none⟩ (.int .i64 ((k:Int)+1))) R s (k+1) T):=(bH.o.grow hg2).set (k+1);refine⟨⟨k+1,fQ.o,by omega,HN.o,dD (aI HG.o hg2) 1 _⟩,?_⟩;rw[jB.o,fQ.o.cells.2.1];simp;omega
   | false =>
    have uj:Hd (k=J):=(HS2.o (by trivial)).symm.trans fP.o;go_wp2_with (first|(go_at_call 74;refine C1.o.mono ?_;rintro e w2 ⟨rfl,hg2⟩)|(go_at_call 120;refine(fC.o _).mono ?_;rintro e w' ⟨rfl,rfl⟩));have HR2:Hd (Rd w' R s J T):=by rw[<-uj.o];exact bH.o.grow hg2
    have HG2:Hd (w.grownBy w' (some R)):=aI HG.o hg2;obtain⟨d0,d1,-,-⟩:=HR2.o.cells;have dte:=jK.o _ HG2.o;have dra:=vM.o _ HG2.o;clear hg2
    by_cases hJa:J=a
    ·have hbe:X.toList.isEmpty=true:=by
      have:X.toList.length=0:=by rw[Gn];omega
      rw[List.isEmpty_iff];exact List.length_eq_zero_iff.1 this
     have bC:Hd (G=.error (2,J)):=by
      show _=_;rw[pM.o,if_pos (Or.inl hJa),hJa]
     have xM:Hd (∀n,Calls prog 125 #[.pointer (some ⟨R,0,none⟩)] (w'.drewN n) fun e w''=>(∃v,e=.returned v/\aF w'' v E 2 J)/\(w'.drewN n).grownBy w'' none):=fun n=>CH.o J _ (au HG2.o n) HR2.o
     clear hJa;go_quiet (fail);go_wp2_with (go_at_call 125;refine(xM.o _).mono ?_;rintro e w3 ⟨⟨v,rfl,hv⟩,hg3⟩);refine bodyPost_ret (results_tmp2 (t:=2) (u:=3) rfl _ _ _) rfl ?_;rw[bC.o];exact⟨fun n j hh=>(by cases hh),fun c p hh=>(by cases hh;exact⟨v,rfl,hv,J,Rd.grow (w:=World.drewN w' _) HR2.o hg3⟩),aI (au HG2.o _) hg3⟩
    ·have hbe:X.toList.isEmpty=false:=by
      rw[Bool.eq_false_iff];intro hh;rw[List.isEmpty_iff]at hh;have:X.toList.length=0:=by rw[hh];rfl
      rw[Gn]at this;omega
     have hX0:0<X.size:=by omega
     have hz0:=HX0.o hX0;have JQ:a<J:=by omega
     by_cases hzz:z=48/\1<J-a
     ·have bC:Hd (G=.error (2,a)):=by
       show _=_;rw[pM.o,if_pos (Or.inr ⟨hzz.2,hzz.1⟩)]
      have hq1:(z == 48)=true:=by simp[hzz.1]
      have hq2:(1:Int)<(X.size:Int):=by omega
      clear hJa hzz;go_quiet (fail);go_wp2_with (go_at_call 165;refine(lD.o _ _).mono ?_;rintro e w3 ⟨⟨v,rfl,hv⟩,hg3⟩);refine bodyPost_ret (results_tmp2 (t:=2) (u:=3) rfl _ _ _) rfl ?_;rw[bC.o];exact⟨fun n j hh=>(by cases hh),fun c p hh=>(by cases hh;exact⟨v,rfl,hv,J,Rd.grow (w:=World.drewN w' _) HR2.o hg3⟩),aI (au HG2.o _) hg3⟩
     ·have aQ:Hd (G=if 18<J-a then .error (3,i) else .ok (val,J)):=by
       show _=_;rw[pM.o,if_neg (by rintro(h|h);exact hJa h;exact hzz ⟨h.2,h.1⟩)]
      have hcase:((z == 48)=true/\(X.size:Int)<=1)\/(z == 48)=false:=by
       by_cases h:z=48
       ·exact Or.inl ⟨by simp[h],by omega⟩
       ·exact Or.inr (by simp[h])
      clear hzz hJa
      by_cases h18:18<J-a
      ·have bC:Hd (G=.error (3,i)):=by show _=_;rw[aQ.o,if_pos h18]
       have hq2:(18:Int)<(X.size:Int):=by omega
       clear h18;go_quiet (fail)
       rcases hcase with⟨hq,hq3⟩|hq
       ·exfalso;omega
       ·go_wp2_with (go_at_call 165;refine(JM.o _ _).mono ?_;rintro e w3 ⟨⟨v,rfl,hv⟩,hg3⟩);refine bodyPost_ret (results_tmp2 (t:=2) (u:=3) rfl _ _ _) rfl ?_;rw[bC.o];exact⟨fun n j hh=>(by cases hh),fun c p hh=>(by cases hh;exact⟨v,rfl,hv,J,Rd.grow (w:=World.drewN w' _) HR2.o hg3⟩),aI (au HG2.o _) hg3⟩
      ·have bC:Hd (G=.ok (val,J)):=by show _=_;rw[aQ.o,if_neg h18]
       have hq2:(X.size:Int)<=18:=by omega
       have vG:Hd (∀w,Calls prog 205 #[.string Y] w fun e w'=>e=.returned (.tuple #[.int .i64 val,.nilIface])/\w.grownBy w' none):=CA.o JQ (by omega);clear h18;go_quiet (fail)
       rcases hcase with⟨hq,hq3⟩|hq
       all_goals (
        go_wp2
        go_region_held3 (fun u=>u.cell? ⟨R,0,none⟩=some (.string s)/\u.cell? ⟨R,1,none⟩=some (.int .i64 (J:Int))) ((first|exact⟨World.grownBy.cell (by assumption) (And.left (by assumption)) (by simp),World.grownBy.cell (by assumption) (And.right (by assumption)) (by simp)⟩|go_keep)) (first|(go_at_call 205;refine(vG.o _).mono ?_;rintro e w6 ⟨rfl,bG⟩))
        have kN:w'.grownBy w6 none:=⟨bG.os,bG.tape,bG.output,bG.size,bG.block⟩;have fG:Hd (Rd w6 R s J T):=HR2.o.grow kN;have lS:Hd (w.grownBy w6 (some R)):=aI HG2.o kN;clear bG kN;go_wp2;refine bodyPost_ret (results_tmp2 (t:=2) (u:=3) rfl _ _ _) rfl ?_;rw[bC.o];exact⟨fun n j hh=>(by cases hh;exact⟨rfl,fG.o⟩),fun c p hh=>(by cases hh),lS.o⟩)
open Go.RowKit Go.Maps Go.WideMaps Go.Joins
theorem Tr.keepR{w w':World}{B T:Nat}{ns:List Tn}{own:List Nat}{now R:Nat}{s:ByteArray}{i T':Nat}(h:Tr w B T ns own now)(hr:Rd w R s i T')(hg:w.grownBy w' (some R)):Tr w' B T ns own now:=by
 obtain⟨N,c,M,xs,ks,hD⟩:=h;exact⟨N,c,M,xs,ks,hD.keeps (ZV hr hg)⟩
theorem Rd.fr{w w':World}{R:Nat}{s:ByteArray}{i T B:Nat}(h:Rd w R s i T)(hf:Fr B w w'):Rd w' R s i T:=(hf.oth _ _ _ _ h (by decide) (by decide) (by decide)).trans h
theorem Rk(ns:List Tn)(up:Nat)(x:Tn)(h:ns.length<(addN ns up x).length):(addN ns up x)[ns.length]'h=x:=by
 obtain⟨X,h1,h2⟩:=I5 ns up x;have:(addN ns up x)[ns.length]?=some x:=by rw[h2,<-h1];simp
 rw[List.getElem?_eq_getElem h]at this;exact Option.some.inj this
theorem Rl(ns:List Tn)(own:List Nat)(up:Nat)(x y:Tn)(h1:y.kd=x.kd)(h2:y.ky=x.ky)(h3:y.ks=x.ks):hold (addN ns up y) own=hold (addN ns up x) own:=by
 have hl:ns.length<(addN ns up x).length:=by rw[bV];omega
 have e:=Rk ns up x hl;obtain⟨a,b,c⟩:=Y5 (addN ns up x) ns.length y hl (by rw[e];exact h1) (by rw[e];exact h2) (by rw[e];exact h3);rw[I7]at a b c;exact Y6 own a b c
theorem Tr.last{w:World}{B T:Nat}{ns:List Tn}{own:List Nat}{now up:Nat}{kd:Int}{k:List UInt8}{p:Nat}(h:Tr w B T (addN ns up ⟨kd,k,[],0,[],p⟩) own now) :
  ∃N cc,w.cell? ⟨T,0,none⟩=some (.slice (some ⟨N,0,none⟩) (ns.length+1) cc)/\(∃cs,w.heap[N]?=some (.cells cs 90 (0,0)))/\B<=N/\w.cell? ⟨N,ns.length*6+2,none⟩=some (.string ⟨#[]⟩)/\w.cell? ⟨N,ns.length*6+3,none⟩=some (.int .i64 0) ∧
   (∀t:List UInt8,Tr (w.setCell ⟨N,ns.length*6+2,none⟩ (.string ⟨t.toArray⟩)) B T (addN ns up ⟨kd,k,t,0,[],p⟩) own now)/\∀v:Int,Tr (w.setCell ⟨N,ns.length*6+3,none⟩ (.int .i64 v)) B T (addN ns up ⟨kd,k,[],v,[],p⟩) own now:=by
 obtain⟨N,c,M,xs,ks,hD⟩:=h;have hl:ns.length<(addN ns up ⟨kd,k,[],0,[],p⟩).length:=by rw[bV];omega
 have e:=Rk ns up ⟨kd,k,[],0,[],p⟩ hl;have hc:=hD.cells.1;rw[bV]at hc;obtain⟨-,-,n2,n3,-,-,-⟩:=hD.node ns.length hl;rw[e]at n2 n3;refine⟨N,c,hc,hD.rowT,(dV hD.row rfl).1,n2,n3,fun t=>?_,fun v=>?_⟩
 ·refine⟨N,c,M,xs.set (ns.length*6+2) (.string ⟨t.toArray⟩),ks,?_⟩;have h1:=hD.cellSet ns.length 2 (.string ⟨t.toArray⟩) ⟨kd,k,t,0,[],p⟩ hl (by omega) (by omega) (by rw[e]) (fun j u hu=>by
   rw[e]at hu
   by_cases hj:j=2
   ·subst hj;rw[if_pos rfl]at hu;exact hu
   ·rw[if_neg hj]at hu
    match j,hj,hu with
    | 0,_,hu=>exact hu
    | 1,_,hu=>exact hu
    | 3,_,hu=>exact hu
    | 4,_,hu=>exact hu
    | 5,_,hu=>exact hu
    | j+6,_,hu=>simp at hu)
  rw[I7]at h1;rw[Rl ns own up ⟨kd,k,[],0,[],p⟩ ⟨kd,k,t,0,[],p⟩ rfl rfl rfl,bV,<-bV ns up ⟨kd,k,[],0,[],p⟩];exact h1
 ·refine⟨N,c,M,xs.set (ns.length*6+3) (.int .i64 v),ks,?_⟩;have h1:=hD.cellSet ns.length 3 (.int .i64 v) ⟨kd,k,[],v,[],p⟩ hl (by omega) (by omega) (by rw[e]) (fun j u hu=>by
   rw[e]at hu
   by_cases hj:j=3
   ·subst hj;rw[if_pos rfl]at hu;exact hu
   ·rw[if_neg hj]at hu
    match j,hj,hu with
    | 0,_,hu=>exact hu
    | 1,_,hu=>exact hu
    | 2,_,hu=>exact hu
    | 4,_,hu=>exact hu
    | 5,_,hu=>exact hu
    | j+6,_,hu=>simp at hu)
  rw[I7]at h1;rw[Rl ns own up ⟨kd,k,[],0,[],p⟩ ⟨kd,k,[],v,[],p⟩ rfl rfl rfl,bV,<-bV ns up ⟨kd,k,[],0,[],p⟩];exact h1
theorem JR{w:World}{v:Value}{E:Int->TypeId × Value}{c:Int}{p N o:Nat}{cs:Array Value}{x:Value}(h:aF w v E c p)(hN:w.heap[N]?=some (.cells cs 90 (0,0))):aF (w.setCell ⟨N,o,none⟩ x) v E c p:=by
 obtain⟨F,h1,h2⟩:=h;exact⟨F,h1,(heap_setCell_other _ _ _ _ (aY h2 hN (by decide))).trans h2⟩
theorem Rd.node{w:World}{R:Nat}{s:ByteArray}{i T N o:Nat}{cs:Array Value}{x:Value}(h:Rd w R s i T)(hN:w.heap[N]?=some (.cells cs 90 (0,0))):Rd (w.setCell ⟨N,o,none⟩ x) R s i T:=(heap_setCell_other _ _ _ _ (aY h hN (by decide))).trans h
theorem vN{w w1:World}{B b:Nat}(h:Below B w w1)(hb:B<=b)(o:Nat)(v:Value):Below B w (w1.setCell ⟨b,o,none⟩ v):=⟨h.os,h.tape,h.output,by have:=h.size;simpa [World.setCell] using this,fun k hk=>(heap_setCell_other _ _ _ _ (by simp;omega)).trans (h.block k hk)⟩
theorem kQ{w w':World}{B:Nat}(hg:w.grownBy w' none)(hB:B<=w.heap.size):Below B w w':=⟨hg.os,hg.tape,hg.output,hg.size,fun k hk=>hg.block k (by omega) (by simp)⟩
def qO(B R T:Nat)(s:ByteArray)(E:Int->TypeId × Value)(own:List Nat)(now:Nat)(r:Rs (Nat × List Tn))(w:World)(e:Ending)(w':World):Prop :=
 (∀j ns,r=.ok (j,ns)->e=.returned .nilIface/\Rd w' R s j T/\Tr w' B T ns own now)/\(∀c p,r=.error (c,p)->∃v,e=.returned v/\aF w' v E c p)/\Below B w w'
def BI(f:Nat):Prop:=∀(B R T:Nat) (s:ByteArray) (E:Int->TypeId × Value) (own:List Nat) (now i up:Nat) (k:List UInt8) (p d:Nat) (ns:List Tn) (w:World),Rd w R s i T->Tr w B T ns own now->Gl w B E->B<=R->i<=s.size->s.size<=100000->WF ns own->WT ns->up<ns.length->¬ag ns up=2->(ag ns up=0->aG ns up k=none)->k.length<=1048576->d<=8->ns.length+own.length+(s.size-i)<=700000->2*(s.size-i)+1<=f →
 Calls prog 123 #[.pointer (some ⟨R,0,none⟩),.int .i64 (up:Nat),.agg #[.string ⟨k.toArray⟩,.int .i64 (p:Nat)],.int .i64 (d:Nat)] w (qO B R T s E own now (val s.data.toList f i up k p d ns) w)
def Rn(f:Nat):Prop:=∀(B R T:Nat) (s:ByteArray) (E:Int->TypeId × Value) (own:List Nat) (now i up d:Nat) (ns:List Tn) (w:World),Rd w R s i T->Tr w B T ns own now->Gl w B E->B<=R->i<s.size->s.size<=100000->WF ns own->WT ns->up<ns.length->ag ns up=1->d<=8->ns.length+own.length+(s.size-i)<=700001->2*(s.size-i)<=f →
 Calls prog 169 #[.pointer (some ⟨R,0,none⟩),.int .i64 (up:Nat),.int .i64 (d:Nat)] w (qO B R T s E own now (lst s.data.toList f (i+1) up d ns) w)
end Go.Proofs.YtmkjelchiacogaaGreatDoor
