import Derived.Test.YteciokcdpadmpaaGreatDoorS23
import Derived.Test.YteciokcdpadmpaaGreatDoorS19
import Derived.Laws.AppendOwnNone
set_option linter.all false
set_option maxRecDepth 100000
set_option maxHeartbeats 0
open Go.Proofs.Tryz
namespace Go.Proofs.YteciokcdpadmpaaGreatDoor
open Go.RowKit
def OS(w:World)(base:Nat)(sl:Value)(L:List Sp):Prop:=w.ownsRow base 179 11 sl L.length (L.flatMap bW)
theorem OS.sps{w:World}{base:Nat}{sl:Value}{L:List Sp}(h:OS w base sl L):SpS w sl L:=Ik h
theorem OS.grow{w w':World}{base:Nat}{sl:Value}{L:List Sp}(h:OS w base sl L)(hg:w.grownBy w' none):OS w' base sl L:=jL h hg
theorem OS.growb{w w':World}{base:Nat}{sl:Value}{L:List Sp}{b:Nat}(h:OS w base sl L)(hg:w.grownBy w' (some b))(hb:b<base):OS w' base sl L:=by
 refine⟨h.1,?_⟩
 rcases h.2 with hn|⟨g,cap,cur,hv,hbg,hc,rest⟩
 ·exact Or.inl hn
 ·refine Or.inr ⟨g,cap,cur,hv,hbg,?_,rest⟩;rw[hg.block g ((aB hc)) (by simp;omega)];exact hc
theorem OS.base{w:World}{base base':Nat}{sl:Value}{L:List Sp}(h:OS w base sl L)(hb:base'<=base):OS w base' sl L:=by
 refine⟨h.1,?_⟩
 rcases h.2 with hn|⟨g,cap,cur,hv,hbg,rest⟩
 ·exact Or.inl hn
 ·exact Or.inr ⟨g,cap,cur,hv,Nat.le_trans hb hbg,rest⟩
theorem OS.emp(w:World)(base:Nat):OS w base (.slice none 0 0) []:=World.ownsRow_nil _ _ _ _
theorem OS.slice{w:World}{base:Nat}{sl:Value}{L:List Sp}(h:OS w base sl L):∃o n c,sl=.slice o n c:=zG h.sps
theorem OS.one{w:World}{base g:Nat}{s:Sp}(hb:base<=g)(h:w.heap[g]?=some (.cells #[.int .i64 s.f1,.int .i64 s.f2,.int .i64 s.f3,.string s.f4,.string s.f5,.int .i64 s.t1,.int .i64 s.t2,.int .i64 s.t3,.string s.t4,.string s.t5,.bool s.o] 179 (0,0))):OS w base (.slice (some ⟨g,0,none⟩) 1 1) [s]:=by
 refine⟨rfl,Or.inr ⟨g,1,_,rfl,hb,h,Nat.le_refl _,by decide,rfl,rfl⟩⟩
theorem acm(ch:Int->Bool)(Ls:List (List Sp))(E:List Er)(hE:E.Perm (dU 0 Ls))(hs:nN (E.map aA)) :
  (bQ (fun b=>ch (having Ls.length b)) (fun _=>0) false (E.map aA)).length<=(dU 0 Ls).length:=by
 have e1:=Eu (fun b=>ch (having Ls.length b)) (E.map aA) (fun x=>ch (having Ls.length (fun j=>fJ (E.map aA) j x))) (fun x=>rfl) hs (E.map aA) [] false rfl;have e2:(fun j=>tot [] j)=(fun _=>(0:Int)):=rfl;rw[e2]at e1;have hsub:=Ci (fun x=>ch (having Ls.length (fun j=>fJ (E.map aA) j x))) (jy (E.map aA)) false;rw[<-e1]at hsub;have h1:(jy (E.map aA)).length<=(E.map aA).length:=by
  have:∀l:List Ed,(jy l).length<=l.length:=by
   intro l
   induction l with
   | nil=>simp[jy]
   | cons e r ih =>
    rw[jy];split
    ·rw[List.length_cons];omega
    ·rw[List.length_cons,List.length_cons];omega
  exact this _
 have h2:=hsub.length_le;have h4:=hE.length_eq;rw[List.length_map]at h1;omega
def KI(f:V->Bool)(k:Nat)(w:World)(e:Ending)(w':World):Prop:=w.grownBy w' none/\∃(o:Option Addr) (n c:Nat) (T:List V),e=.returned (.tuple #[.slice o n c,.int .i64 0])/\OS w' w.heap.size (.slice o n c) (outs T)/\LOk (outs T) k/\NT T 2/\∀x,fB (outs T) x=f x
theorem acn{T:List V}{j k:Nat}(h:NT T j)(hk:j<=k):NT T k:=⟨h.up,h.ok,h.sm,h.sd,Nat.le_trans h.ln (Nat.mul_le_mul_left _ hk)⟩
theorem SL{ch:Int->Bool}(h0:ch 0=false){Ls:List (List Sp)}{f:V->Bool}{w:World}{e:Ending}{w':World}(k:Nat)(hl2:Ls.length<=2)(hk:(dU 0 Ls).length<=2*k)(hsz:∀l∈Ls,l.length<=1048576/\∀s∈l,jK s)(hsd:Ls.all (·.all fZ)=true)(hf:∀x,ch (pV (Ls.map (·.map tJ)) x)=f x)(h:SweepPost ch Ls w e w'):KI f k w e w':=by
 refine⟨h.1,?_⟩
 rcases h.2 with⟨h1,h2⟩|⟨h1,E,vs,h2,h3,h4,h5,h6⟩
 ·exact absurd hsd h1
 ·obtain⟨o,n,c,rfl⟩:=zG h5;have hT:=Zg ch Ls hsz h1 E h2 h3;have hn:=acm ch Ls E h2 h3;refine⟨o,n,c,_,h4,h6,⟨hT.sound,(hT.nf hl2).small,?_⟩,acn hT hl2,fun x=>?_⟩
  ·have:=Zh (bQ (fun b=>ch (having Ls.length b)) (fun _=>0) false (E.map aA));omega
  ·rw[PT _ hT.up];have hp:=Zc ch h0 (Ls.map (·.map tJ)) (E.map aA) (by rw[<-OD];exact h2.map _) h3 x;rw[List.length_map]at hp;rw[hp,hf]
theorem aco(sl:Value)(L:List Sp)(k:Nat)(w:World)(h:SpS w sl L)(hL:LOk L k)(hk:k<=1048576):Calls prog 103 #[sl] w (KI (fB L) k w):=by
 have h1:=Nat.le_trans hL.ln hk;refine(Y9 sl L w h h1 hL.sm).mono ?_;intro e w' hp;refine SL (by decide) k (by simp) ?_ (by intro l hl;simp at hl;subst hl;exact⟨h1,hL.sm⟩) (by simp[hL.sd]) (fun x=>Zd L x) hp;have h3:=zo 0 L;have h4:=hL.ln;show(L.flatMap (dS 0)++[]).length<=_;rw[List.append_nil];omega
theorem acp(sl sm:Value)(L M:List Sp)(j k:Nat)(w:World)(h:SpS w sl L)(h':SpS w sm M)(hL:LOk L j)(hM:LOk M k)(hj:j<=1048576)(hk:k<=1048576):Calls prog 161 #[sl,sm] w (KI (fun x=>fB L x && fB M x) (j+k) w):=by
 have h1:=Nat.le_trans hL.ln hj;have h2:=Nat.le_trans hM.ln hk;refine(Za sl sm L M w h h' h1 hL.sm h2 hM.sm).mono ?_;intro e w' hp;refine SL (by decide) (j+k) (by simp) ?_ (by intro l hl;simp at hl;rcases hl with rfl|rfl<;>first|exact⟨h1,hL.sm⟩|exact⟨h2,hM.sm⟩) (by simp[hL.sd,hM.sd]) (fun x=>Ze L M x) hp;have h3:=zo 0 L;have h5:=zo 1 M;have h4:=hL.ln;have h6:=hM.ln;show(L.flatMap (dS 0)++(M.flatMap (dS 1)++[])).length<=_;rw[List.append_nil,List.length_append];omega
def KJ(b:Nat)(s:ByteArray)(E:Int)(J:Nat)(g:Sg)(w:World)(e:Ending)(w':World):Prop :=
 ∃(o:Option Addr) (n c:Nat),e=.returned (.tuple #[.slice o n c,.int .i64 E])/\RS b s J w'/\w.grownBy w' (some b)/\(E=0->OS w' w.heap.size (.slice o n c) [jX g])
def Ag(l:List UInt8)(i:Nat):Int:=if au l i=i then 2 else(ay l (au l i)).1
def Ah(l:List UInt8)(i:Nat):Nat:=if au l i=i then i else(ay l (au l i)).2.1
theorem acr(b:Nat)(s:ByteArray)(i:Nat)(p:Pa)(y1 y2 y3:Int)(Q:ByteArray)(m:Int)(hp:ww y1 y2 y3 Q m=kQ p)(w:World)(hi:i<=s.size)(h:RS b s i w)(hs:s.size<=200) :
  Calls prog 160 #[.pointer (some ⟨b,0,none⟩),.agg #[.int .i64 y1,.int .i64 y2,.int .i64 y3,.string Q,.string ⟨#[]⟩,.int .i64 m]] w (KJ b s (Ag s.data.toList i) (Ah s.data.toList i) (vV p (ay s.data.toList (au s.data.toList i)).2.2) w):=by
 have CB:=ae (fun w (h:RS b s i w)=>JU b s i w hi h (by omega));have hsk:au s.data.toList i<=s.size:=by have:=pG s.data.toList i (by simpa using hi);simp at this;exact this
 have hge:=qy s.data.toList i;have CP:=ae (fun w (h:RS b s (au s.data.toList i) w)=>QO b s _ w hsk h (by omega));have hpl:=JX s.data.toList (au s.data.toList i);have CW:=ae (fun(h0:(ay s.data.toList (au s.data.toList i)).1=0)=>Zo p _ (FI s.data.toList _ (by simpa using hsk) h0) (by simp at hpl;omega));have rW:Hd (b<w.heap.size):=by obtain⟨t,h⟩:=h;exact(aB h)
 unfold Ag Ah;obtain⟨K,hK⟩:=zN (au s.data.toList i);rw[hK]at CB CP CW hge ⊢;obtain⟨E,J,q,hR⟩:∃E J q,ay s.data.toList K=(E,J,q):=⟨_,_,_,rfl⟩;rw[hR]at CP CW ⊢;simp only[]at CW ⊢;have HI:=ae h;have SN:=ae hp;clear hK hR h hi hs hsk hpl hp
 by_cases hz:K=i
 ·rw[if_pos hz,if_pos hz];rw[hz,decide_eq_false (Nat.lt_irrefl i)]at CB;clear hz hge CP CW;go_enter func160,ntmps160;go_wp2_with (go_at_call 132;refine(CB.o _ (HI.o.grow (aj (ak w none) _))).mono ?_);rintro e w1 ⟨rfl,hr,hg⟩;have HF:Hd (RS b s i w1/\w.grownBy w1 (some b)):=⟨hr,ag (bH (aj (ak w none) _) _) hg⟩;clear hr hg;go_wp2;exact bodyPost_ret (results_tmp2 (t:=4) (u:=5) rfl _ _ _) rfl ⟨_,_,_,rfl,HF.o.1,HF.o.2,fun h=>absurd h (by decide)⟩
 ·rw[if_neg hz,if_neg hz];rw[decide_eq_true (show i<K by omega)]at CB;clear hz hge;go_enter func160,ntmps160;go_wp2_with (go_at_call 132;refine(CB.o _ (HI.o.grow (aj (ak w none) _))).mono ?_);rintro e w1 ⟨rfl,hr,hg⟩;obtain⟨A,hA⟩:=zN (w.heap.size);have aF:Hd (PB A y1 y2 y3 Q m w1):=by
   refine PB.growb (w:=w.alloc (.cells #[.int .i64 y1,.int .i64 y2,.int .i64 y3,.string Q,.string ⟨#[]⟩,.int .i64 m] 232)) ?_ hg (by have:=rW.o;omega);unfold PB;rw[<-hA];exact heap_alloc_new w _
  have HG:=ae (ag (bH (aj (ak w none) _) _) hg);have xJ:Hd (w.heap.size<=A/\A≠b):=⟨Nat.le_of_eq hA,by have:=rW.o;omega⟩;have HR1:=ae hr
  try rw[hA]
  clear hr hg hA;go_wp2_with (go_at_call 178;refine(CP.o _ HR1.o).mono ?_);rintro e w2 ⟨x1,x2,x3,P,n,rfl,hr,hg,hok⟩;replace HR1:Hd (RS b s J w2):=hr;replace HG:=ae (ag HG.o hg);replace aF:=ae (aF.o.growb hg xJ.o.2);have dF:Hd (E=0->ww x1 x2 x3 P n=kQ q):=hok;clear hr hg hok
  cases hz:(E == 0) with
  | false =>
   have jC:Hd (E≠0):=by show E≠0;simpa using hz
   go_wp2;exact bodyPost_ret (results_tmp2 (t:=4) (u:=5) rfl _ _ _) rfl ⟨_,_,_,rfl,HR1.o.grow (aj (ak w2 none) _),ag HG.o (bH (aj (ak w2 none) _) _),fun h=>absurd h jC.o⟩
  | true =>
   have hE:E=0:=by simpa using hz
   subst hE;have hc:=CW.o rfl;rw[<-dF.o rfl,<-SN.o]at hc;obtain⟨s1,hs1⟩:=zN (jX (vV p q));have CX:Hd (∀w,Calls prog 179 #[.agg #[.int .i64 y1,.int .i64 y2,.int .i64 y3,.string Q,.string ⟨#[]⟩,.int .i64 m],.agg #[.int .i64 x1,.int .i64 x2,.int .i64 x3,.string P,.string ⟨#[]⟩,.int .i64 n]] w fun e w'=>e=.returned (.agg #[.int .i64 s1.f1,.int .i64 s1.f2,.int .i64 s1.f3,.string s1.f4,.string s1.f5,.int .i64 s1.t1,.int .i64 s1.t2,.int .i64 s1.t3,.string s1.t4,.string s1.t5,.bool s1.o])/\w.grownBy w' none):=fun w=>by rw[<-hs1];exact hc w
   have wI:=ae hs1;clear hc hs1 CW dF SN CB CP hz;obtain⟨C,hC⟩:=zN (w2.heap.size);obtain⟨W,hW⟩:=zN (w2.alloc (.cells #[.int .i64 x1,.int .i64 x2,.int .i64 x3,.string P,.string ⟨#[]⟩,.int .i64 n] 232));have hgW:w2.grownBy W none:=by rw[<-hW];exact aj (ak w2 none) _
   have aH:Hd (PB C x1 x2 x3 P n W):=by
    show PB C x1 x2 x3 P n W;unfold PB;rw[<-hW,<-hC];exact heap_alloc_new w2 _
   replace aF:=ae (aF.o.grow hgW);replace HG:=ae (ag HG.o (bH hgW _));replace HR1:=ae (HR1.o.grow hgW);obtain⟨a0,a1,a2,a3,a4,a5⟩:=aF.o.cells;obtain⟨c0,c1,c2,c3,c4,c5⟩:=aH.o.cells;clear hgW;go_wp2_with (first|(go_at_call 179;refine(CX.o _).mono ?_));rintro e w3 ⟨rfl,hg⟩;have dJ:=ae (ag HG.o (bH hg _));have HR3:=ae (HR1.o.grow hg);clear hW hC a0 a1 a2 a3 a4 a5 c0 c1 c2 c3 c4 c5;clear hg;go_wp2;refine bodyPost_ret (results_tmp2 (t:=4) (u:=5) rfl _ _ _) rfl ⟨_,_,_,rfl,HR3.o.grow (aj (ak w3 none) _),ag dJ.o (bH (aj (ak w3 none) _) _),fun _=>?_⟩;rw[wI.o];exact OS.one dJ.o.size (heap_alloc_new w3 _)
open Go.RowKit
theorem SQ{l:List UInt8}{f i:Nat}{acc:List Te}(h:l.length<=i\/l[i]?=some 124):aX l (f+1) i acc=(0,i,acc):=by unfold aX;rw[if_pos h]
theorem acs{l:List UInt8}{f i:Nat}{acc:List Te}(h:¬(l.length<=i\/l[i]?=some 124))(hr:¬(ay l (ax l i).2).1=0):aX l (f+1) i acc=((ay l (ax l i).2).1,(ay l (ax l i).2).2.1,acc):=by
 unfold aX;rw[if_neg h,if_neg hr]
theorem acu{l:List UInt8}{f i:Nat}{acc:List Te}(h:¬(l.length<=i\/l[i]?=some 124))(hr:(ay l (ax l i).2).1=0)
  (hb:((ax l i).1<0/\acc=[])/\(ay l (ax l i).2).2.1<au l (ay l (ax l i).2).2.1/\l[au l (ay l (ax l i).2).2.1]?=some 45) :
  (aX l (f+1) i acc).1=Ag l (au l (ay l (ax l i).2).2.1+1)/\(aX l (f+1) i acc).2.1=Ah l (au l (ay l (ax l i).2).2.1+1)/\((aX l (f+1) i acc).1=0->(aX l (f+1) i acc).2.2=[⟨7,(ay l (ax l i).2).2.2⟩,⟨2,(ay l (au l (au l (ay l (ax l i).2).2.1+1))).2.2⟩]/\(ay l (au l (au l (ay l (ax l i).2).2.1+1))).1=0):=by
 unfold aX Ag Ah;rw[if_neg h,if_pos hr,if_pos hb]
 by_cases hm:au l (au l (ay l (ax l i).2).2.1+1)=au l (ay l (ax l i).2).2.1+1
 ·rw[if_pos hm,if_pos hm,if_pos hm];exact⟨rfl,rfl,fun h=>by cases h⟩
 ·rw[if_neg hm,if_neg hm,if_neg hm]
  by_cases hq:(ay l (au l (au l (ay l (ax l i).2).2.1+1))).1=0
  ·rw[if_pos hq];exact⟨hq.symm,rfl,fun _=>⟨rfl,hq⟩⟩
  ·rw[if_neg hq];exact⟨rfl,rfl,fun h=>absurd h hq⟩
theorem acv{l:List UInt8}{f i:Nat}{acc:List Te}(h:¬(l.length<=i\/l[i]?=some 124))(hr:(ay l (ax l i).2).1=0)(hg:¬(ay l (ax l i).2).2.1<au l (ay l (ax l i).2).2.1) :
  aX l (f+1) i acc=(0,au l (ay l (ax l i).2).2.1,acc++[⟨gq (ax l i).1,(ay l (ax l i).2).2.2⟩]):=by
 unfold aX;rw[if_neg h,if_pos hr,if_neg (fun hb=>hg hb.2.1),if_pos hg]
theorem acw{l:List UInt8}{f i:Nat}{acc:List Te}(h:¬(l.length<=i\/l[i]?=some 124))(hr:(ay l (ax l i).2).1=0)(hg:(ay l (ax l i).2).2.1<au l (ay l (ax l i).2).2.1)
  (hb:¬(((ax l i).1<0/\acc=[])/\l[au l (ay l (ax l i).2).2.1]?=some 45)) :
  aX l (f+1) i acc=aX l f (au l (ay l (ax l i).2).2.1) (acc++[⟨gq (ax l i).1,(ay l (ax l i).2).2.2⟩]):=by
 rw[aX,if_neg h,if_pos hr,if_neg (fun hb'=>hb ⟨hb'.1,hb'.2.2⟩),if_neg (not_not_intro hg)]
theorem KL{A:Nat}{w W:World}(h:w.grownBy W none)(hA:w.heap.size<=A)(T F:Value)(y1 y2 y3:Int)(x4:ByteArray)(n:Int):w.grownBy (oH W A T F y1 y2 y3 x4 n) none:=fF (fF (fF (fF (fF (fF (fF (fF h hA _ _) hA _ _) hA _ _) hA _ _) hA _ _) hA _ _) hA _ _) hA _ _
theorem acx(sg:Int)(hs:-1<=sg/\sg<=6):∀(args:Array Value) (w:World),(callFunc (oz sg) args).run prog w=.ok (.enter (oz sg) args) w:=by
 intro args w;have hss:sg=-1\/sg=0\/sg=1\/sg=2\/sg=3\/sg=4\/sg=5\/sg=6:=by omega
 rcases hss with rfl|rfl|rfl|rfl|rfl|rfl|rfl|rfl
 ·exact Tryz.call195 args w
 ·exact Tryz.call195 args w
 ·exact Tryz.call191 args w
 ·exact Tryz.call192 args w
 ·exact Tryz.call193 args w
 ·exact Tryz.call194 args w
 ·exact Tryz.call196 args w
 ·exact Tryz.call199 args w
def KN(b:Nat)(s:ByteArray)(R:Int × Nat × List Te)(w:World)(e:Ending)(w':World):Prop :=
 ∃(o:Option Addr) (n c:Nat),e=.returned (.tuple #[.slice o n c,.int .i64 R.1])/\RS b s R.2.1 w'/\w.grownBy w' (some b)/\(R.1=0->∃L,OS w' w.heap.size (.slice o n c) L/\LOk L 300/\Has L (lw R.2.2))
theorem acy:Has [jX ⟨jR,rJ,true⟩] (lw []):=by
 intro v hv;rw[holds_one,show lw [] v=true from rfl,rM];exact⟨FC v hv,Or.inl rfl⟩
theorem acz:LOk [jX ⟨jR,rJ,true⟩] 1:=LOk.one (g:=⟨jR,rJ,true⟩) (n:=1) ⟨QX 1 (Nat.le_refl _),fun h=>(by cases h),Nat.zero_le _⟩ (by decide)
theorem acA{L M:List Sp}{acc:List Te}{sg:Int}{p:Pa}(h:Has L (lw acc))(hs:-1<=sg/\sg<=6)(hp:fA p)(hM:∀x,fB M x=(fB L x && fB [jX (xW (gq sg) p)] x)):Has M (lw (acc++[⟨gq sg,p⟩])):=by
 intro v hv;rw[hM,h v hv,holds_one,P6 (gq sg) (by unfold gq;split<;>omega) p hp v hv,aaD]
theorem acB{p q:Pa}(hp:fA p)(hq:fA q):Has [jX (vV p q)] (lw [⟨7,p⟩,⟨2,q⟩]):=by
 intro v hv;rw[holds_one,Zk p q hp hq v hv];show _=([⟨7,p⟩,⟨2,q⟩]:List Te).all _;simp
theorem set_any(b:Nat)(s:ByteArray)(i:Nat)(w:World)(hi:i<=s.size)(h:RS b s i w)(hs:s.size<=200) :
  Calls prog 131 #[.pointer (some ⟨b,0,none⟩)] w (KN b s (aX s.data.toList (s.data.toList.length+1) (au s.data.toList i) []) w):=by
 obtain⟨l,hl⟩:=zN (s.data.toList);have hll:l.length=s.size:=by rw[<-hl];simp
 have bY:Hd (l.length=s.size/\s.size<=200):=⟨hll,hs⟩;have CL:=ae zl;have CB:Hd (∀i w,i<=s.size->RS b s i w->Calls prog 132 #[.pointer (some ⟨b,0,none⟩)] w fun e w'=>e=.returned (.bool (decide (i<au l i)))/\RS b s (au l i) w'/\w.grownBy w' (some b)):=fun i w hi h=>by rw[<-hl];exact JU b s i w hi h (by omega)
 have CE:=ae (EI b s);have CX:Hd (∀i w,i<=s.size->RS b s i w->Calls prog 152 #[.pointer (some ⟨b,0,none⟩),.string ⟨#[124]⟩] w fun e w'=>e=.returned (.bool (decide (l[i]?=some 124)))/\∃n,w'=w.drewN n):=fun i w hi h=>by
  have:=next_any b s ⟨#[124]⟩ i w hi h;rw[show(ByteArray.mk #[124]).data.toList=[124] from rfl,dI,hl]at this;exact this
 have CT:Hd (∀i w,i<=s.size->RS b s i w->Calls prog 159 #[.pointer (some ⟨b,0,none⟩)] w (SC b s (ax l i).1 (ay l (ax l i).2) w)):=fun i w hi h=>by rw[<-hl];exact ab9 b s i w hi h (by omega)
 have TY:=ae (fun i w (hc:l[i]?=some 45) (h:RS b s i w)=>qZ b s i 45 w (by rw[hl];exact hc) h (by omega));have TN:Hd (∀i w,i<=s.size->¬l[i]?=some 45->RS b s i w->Calls prog 128 #[.pointer (some ⟨b,0,none⟩),.string ⟨#[45]⟩] w fun e w'=>e=.returned (.bool false)/\RS b s i w'/\w.grownBy w' (some b)):=fun i w hi hc h=>nO b s i 45 w hi (by rw[hl];exact hc) h (by omega)
 have CBT:Hd (∀(i:Nat) (p:Pa) (y1 y2 y3:Int) (Q:ByteArray) (m:Int) (w:World),ww y1 y2 y3 Q m=kQ p->i<=s.size->RS b s i w->Calls prog 160 #[.pointer (some ⟨b,0,none⟩),.agg #[.int .i64 y1,.int .i64 y2,.int .i64 y3,.string Q,.string ⟨#[]⟩,.int .i64 m]] w (KJ b s (Ag l i) (Ah l i) (vV p (ay l (au l i)).2.2) w)):=fun i p y1 y2 y3 Q m w hp hi h=>by rw[<-hl];exact acr b s i p y1 y2 y3 Q m hp w hi h hs
 have pM:Hd (∀i,i<=s.size->i<=au l i/\au l i<=s.size):=fun i hi=>⟨qy l i,by have:=pG l i (by rw[hll];exact hi);rw[hll]at this;exact this⟩
 have Ai:Hd (∀i,i<=s.size->(ay l (ax l i).2).1=0->i<(ay l (ax l i).2).2.1/\(ay l (ax l i).2).2.1<=s.size/\fA (ay l (ax l i).2).2.2):=fun i hi h0=>by
  have sp:=CU l i (by rw[hll];exact hi);have pp:=CJ l _ sp.2 h0;exact⟨by omega,by rw[<-hll];exact pp.2,FI l _ sp.2 h0⟩
 have jh:Hd (∀i,(ay l i).2.2.pre.length<=200):=fun i=>by have:=JX l i;omega
 have HI:=ae h;have lU:=ae hi;have rW:Hd (b<w.heap.size):=by obtain⟨t,h⟩:=h;exact(aB h)
 rw[hl];obtain⟨E0,J0,ts0,hR⟩:∃E0 J0 ts0,aX l (l.length+1) (au l i) []=(E0,J0,ts0):=⟨_,_,_,rfl⟩;have HR0:=ae hR;rw[hR];obtain⟨B,hB⟩:=zN (w.heap.size);have HB:Hd (w.heap.size=B/\b<B):=⟨hB,by rw[<-hB];exact rW.o⟩;clear hl hll hR h hs hi hB;go_enter func131,ntmps131;go_wp2_with (go_at_call 158;refine(CL.o _).mono ?_);rintro e w1 ⟨rfl,hg⟩;have HG:=ae hg;clear hg;go_wp2_with (go_at_call 132;refine(CB.o i _ lU.o ((HI.o.grow HG.o).grow (aj (ak w1 none) _))).mono ?_);rintro e w2 ⟨rfl,hr,hg⟩;have cu:Hd (OS w2 B (.slice (some ⟨w1.heap.size,0,none⟩) 1 1) [jX ⟨jR,rJ,true⟩]):=by
  refine OS.growb (b:=b) (w:=w1.alloc (.cells #[.int .i64 0,.int .i64 0,.int .i64 0,.string ⟨#[48]⟩,.string ⟨#[]⟩,.int .i64 0,.int .i64 0,.int .i64 0,.string ⟨#[]⟩,.string ⟨#[]⟩,.bool true] 179)) ?_ hg HB.o.2;exact OS.one (s:=jX ⟨jR,rJ,true⟩) (by rw[<-HB.o.1];exact HG.o.size) (heap_alloc_new w1 _)
 have HG2:=ae (ag (bH (ag HG.o (aj (ak w1 none) _)) _) hg);have HR2:=ae hr;obtain⟨a0,ha0⟩:=zN (w1.heap.size);rw[ha0]at cu
 try rw[ha0]
 clear hr hg ha0 HG;go_wp2;go_loopw [4,5] (fun va vf wr=>∃(f j:Nat) (acc:List Te) (L:List Sp),vf=.bool acc.isEmpty/\j<=s.size/\l.length<f+j/\acc.length<=j/\aX l f j acc=(E0,J0,ts0)/\RS b s j wr/\OS wr B va L/\LOk L (acc.length+1)/\Has L (lw acc)/\w.grownBy wr (some b)) (fun _ _ wr=>s.size-placeOf b wr)
 case atStart=>exact⟨l.length+1,au l i,[],_,rfl,(pM.o i lU.o).2,by omega,Nat.zero_le _,HR0.o,HR2.o,cu.o,acz,acy,HG2.o⟩
 case round =>
  obtain⟨f,j,acc,L,rfl,hj,hf,ha,hps,hrs,hos,DC,hhas,hg⟩:=hrel;clear cu HR2 HG2 HR0;obtain⟨o,n0,c0,rfl⟩:=hos.slice;obtain⟨f,rfl⟩:∃f',f=f'+1:=by
   cases f with
   | zero=>have:=bY.o.1;omega
   | succ f=>exact⟨f,rfl⟩
  have HJ:=ae hj;have HF:=ae hf;have HA:=ae ha;have DD:=ae hps;have az:=ae hrs;have cu:=ae hos;have DF:=ae DC;have DI:=ae hhas;have HG:=ae hg;clear hj hf ha hps hrs hos DC hhas hg;have Aj:=ae az.o.place;have DJ:=ae (CE.o j);have Gg:=ae (fun w (h:RS b s j w)=>CX.o j w HJ.o h);have FIN:Hd (∀(W:World),RS b s J0 W->w.grownBy W (some b)->(∃L,OS W B (.slice o n0 c0) L/\LOk L 300/\Has L (lw ts0))->E0=0->KN b s (E0,J0,ts0) w (.returned (.tuple #[.slice o n0 c0,.int .i64 0])) W):=by
   intro W h1 h2 ⟨L,h3,h4,h5⟩ h6;subst h6;exact⟨o,n0,c0,rfl,h1,h2,fun _=>⟨L,by rw[HB.o.1];exact h3,h4,h5⟩⟩
  by_cases hend:j=s.size
  ·have HST:Hd (l.length<=j\/l[j]?=some 124):=Or.inl (by have:=bY.o.1;omega);rw[decide_eq_true hend]at DJ;clear hend;go_wp2_with (go_at_call 101;refine(DJ.o _ az.o).mono ?_);rintro e u1 ⟨rfl,n,hn⟩;replace az:Hd (RS b s j u1):=by show RS b s j u1;rw[hn];exact az.o.drew n
   replace cu:Hd (OS u1 B (.slice o n0 c0) L):=by show OS u1 B _ L;rw[hn];exact cu.o
   replace HG:Hd (w.grownBy u1 (some b)):=by show w.grownBy u1 (some b);rw[hn];exact aG HG.o n
   clear hn;go_wp2;obtain⟨rfl,rfl,rfl⟩:E0=0/\J0=j/\ts0=acc:=by have:=DD.o.symm.trans (SQ HST.o);simpa using this
   have hfin:=FIN.o _ az.o HG.o ⟨L,cu.o,DF.o.mono (by have:=HA.o;have:=HJ.o;have:=bY.o.2;omega),DI.o⟩ rfl;exact bodyPost_ret (results_tmp2 (t:=2) (u:=3) rfl _ _ _) rfl hfin
  ·rw[decide_eq_false hend]at DJ;have mX:Hd (¬l.length<=j):=by show ¬_;have:=bY.o.1;have:=HJ.o;omega
   clear hend
   by_cases hbar:l[j]?=some 124
   ·have HST:Hd (l.length<=j\/l[j]?=some 124):=Or.inr hbar;rw[decide_eq_true hbar]at Gg;clear hbar;go_wp2_with (go_at_call 101;refine(DJ.o _ az.o).mono ?_);rintro e u1 ⟨rfl,n,hn⟩;replace az:Hd (RS b s j u1):=by show RS b s j u1;rw[hn];exact az.o.drew n
    replace cu:Hd (OS u1 B (.slice o n0 c0) L):=by show OS u1 B _ L;rw[hn];exact cu.o
    replace HG:Hd (w.grownBy u1 (some b)):=by show w.grownBy u1 (some b);rw[hn];exact aG HG.o n
    clear hn;go_wp2_with (go_at_call 152;refine(Gg.o _ az.o).mono ?_);rintro e u2 ⟨rfl,n,hn⟩;replace az:Hd (RS b s j u2):=by show RS b s j u2;rw[hn];exact az.o.drew n
    replace cu:Hd (OS u2 B (.slice o n0 c0) L):=by show OS u2 B _ L;rw[hn];exact cu.o
    replace HG:Hd (w.grownBy u2 (some b)):=by show w.grownBy u2 (some b);rw[hn];exact aG HG.o n
    clear hn;go_wp2;obtain⟨rfl,rfl,rfl⟩:E0=0/\J0=j/\ts0=acc:=by have:=DD.o.symm.trans (SQ HST.o);simpa using this
    have hfin:=FIN.o _ az.o HG.o ⟨L,cu.o,DF.o.mono (by have:=HA.o;have:=HJ.o;have:=bY.o.2;omega),DI.o⟩ rfl;exact bodyPost_ret (results_tmp2 (t:=2) (u:=3) rfl _ _ _) rfl hfin
   ·have HST:Hd (¬(l.length<=j\/l[j]?=some 124)):=fun h=>h.elim mX.o hbar
    rw[decide_eq_false hbar]at Gg;clear hbar mX;have x8:=ae (fun w (h:RS b s j w)=>CT.o j w HJ.o h);have dE:=ae (QW l j);have uH:=ae (Ai.o j HJ.o);have rV:Hd ((ay l (ax l j).2).2.2.pre.length<=200):=jh.o _;have BAD:Hd (¬(ay l (ax l j).2).1=0->aX l (f+1) j acc=((ay l (ax l j).2).1,(ay l (ax l j).2).2.1,acc)):=fun h=>acs HST.o h
    have LAST:Hd ((ay l (ax l j).2).1=0->¬(ay l (ax l j).2).2.1<au l (ay l (ax l j).2).2.1->aX l (f+1) j acc=(0,au l (ay l (ax l j).2).2.1,acc++[⟨gq (ax l j).1,(ay l (ax l j).2).2.2⟩])):=fun h1 h2=>acv HST.o h1 h2
    have MORE:Hd ((ay l (ax l j).2).1=0->(ay l (ax l j).2).2.1<au l (ay l (ax l j).2).2.1->¬(((ax l j).1<0/\acc=[])/\l[au l (ay l (ax l j).2).2.1]?=some 45)->aX l (f+1) j acc=aX l f (au l (ay l (ax l j).2).2.1) (acc++[⟨gq (ax l j).1,(ay l (ax l j).2).2.2⟩])):=fun h1 h2 h3=>acw HST.o h1 h2 h3
    have BTW:Hd ((ay l (ax l j).2).1=0->((ax l j).1<0/\acc=[])/\(ay l (ax l j).2).2.1<au l (ay l (ax l j).2).2.1/\l[au l (ay l (ax l j).2).2.1]?=some 45->(aX l (f+1) j acc).1=Ag l (au l (ay l (ax l j).2).2.1+1)/\(aX l (f+1) j acc).2.1=Ah l (au l (ay l (ax l j).2).2.1+1)/\((aX l (f+1) j acc).1=0->(aX l (f+1) j acc).2.2=[⟨7,(ay l (ax l j).2).2.2⟩,⟨2,(ay l (au l (au l (ay l (ax l j).2).2.1+1))).2.2⟩]/\(ay l (au l (au l (ay l (ax l j).2).2.1+1))).1=0)):=fun h1 h2=>acu HST.o h1 h2
    obtain⟨sg,j1,hsg⟩:∃sg j1,ax l j=(sg,j1):=⟨_,_,rfl⟩;rw[hsg]at x8 dE uH rV BAD LAST MORE BTW;simp only[]at x8 dE uH rV BAD LAST MORE BTW;obtain⟨E,J,p,hR⟩:∃E J p,ay l j1=(E,J,p):=⟨_,_,_,rfl⟩;rw[hR]at x8 uH rV BAD LAST MORE BTW;simp only[]at uH rV BAD LAST MORE BTW;rw[DD.o]at BAD LAST MORE BTW;simp only[]at BTW;clear hsg hR HST;go_wp2_with (go_at_call 101;refine(DJ.o _ az.o).mono ?_);rintro e u1 ⟨rfl,n,hn⟩;replace az:Hd (RS b s j u1):=by show RS b s j u1;rw[hn];exact az.o.drew n
    replace cu:Hd (OS u1 B (.slice o n0 c0) L):=by show OS u1 B _ L;rw[hn];exact cu.o
    replace HG:Hd (w.grownBy u1 (some b)):=by show w.grownBy u1 (some b);rw[hn];exact aG HG.o n
    clear hn;go_wp2_with (go_at_call 152;refine(Gg.o _ az.o).mono ?_);rintro e u2 ⟨rfl,n,hn⟩;replace az:Hd (RS b s j u2):=by show RS b s j u2;rw[hn];exact az.o.drew n
    replace cu:Hd (OS u2 B (.slice o n0 c0) L):=by show OS u2 B _ L;rw[hn];exact cu.o
    replace HG:Hd (w.grownBy u2 (some b)):=by show w.grownBy u2 (some b);rw[hn];exact aG HG.o n
    clear hn;go_wp2_with (first|(go_at_call 159;refine(x8.o _ az.o).mono ?_));rintro e u3 ⟨T,x1,x2,x3,P,n,rfl,hT,hr,hg,hok⟩;replace az:Hd (RS b s J u3):=hr;have dF:Hd (E=0->ww x1 x2 x3 P n=kQ p):=hok;replace cu:=ae (cu.o.growb hg HB.o.2);replace HG:=ae (ag HG.o hg);have HT:=ae hT;obtain⟨F,hF⟩:=zN (oz sg);have rY:=ae hF;rw[hF];obtain⟨D,hD⟩:=zN (u3.heap.size);obtain⟨W0,hW0⟩:=zN (u3.alloc (.cells #[.string ⟨#[]⟩,.nilFunc,.int .i64 0,.int .i64 0,.int .i64 0,.string ⟨#[]⟩,.string ⟨#[]⟩,.int .i64 0] 234));have HD0:Hd (TB D (.string ⟨#[]⟩) .nilFunc 0 0 0 ⟨#[]⟩ 0 W0):=by
     show TB D _ _ 0 0 0 _ 0 W0;unfold TB;rw[<-hW0,<-hD];exact heap_alloc_new u3 _
    have hgW:u3.grownBy W0 none:=by rw[<-hW0];exact aj (ak u3 none) _
    have lY:Hd (B<=D/\b≠D):=by have h1:=HG.o.size;have h2:=HB.o;rw[h2.1,hD]at h1;exact⟨h1,by omega⟩
    have bT:Hd (u3.grownBy W0 none/\u3.heap.size<=D):=⟨hgW,Nat.le_of_eq hD⟩;obtain⟨k0,k1,k2,k3,k4,k5,k6,k7⟩:=HD0.o.cells;have kf:=HD0.o.f;have stf:∀(a:Addr) (m:Mode) (w:World),(store a (.func (.func F) #[] #[]) m).run prog w=stored prog w a (.func (.func F) #[] #[]) m:=fun a m w=>run_store prog w a _ m rfl
    clear hr hg hok hT hF hgW
    cases hz:(E == 0) with
    | false =>
     have hE0:¬E=0:=by simpa using hz
     have HB2:=ae (BAD.o hE0);have jC:=ae hE0;clear hE0;go_wp2;refine bodyPost_ret (results_tmp2 (t:=2) (u:=3) rfl _ _ _) rfl ?_;rw[HB2.o];exact⟨_,_,_,rfl,rX (az.o.grow bT.o.1) lY.o.2 _ _ _ _ _ _ _,ag HG.o (bH (KL bT.o.1 bT.o.2 _ _ _ _ _ _ _) _),fun h=>absurd h jC.o⟩
    | true =>
     have hE0:E=0:=by simpa using hz
     subst hE0;obtain⟨hp1,hp2,hp3⟩:=uH.o rfl;have HP:Hd (j<J/\J<=s.size/\fA p):=⟨hp1,hp2,hp3⟩;have yu:=ae (fun w (h:RS b s J w)=>CB.o J w HP.o.2.1 h);have SS:=ae (dF.o rfl);have HKK:=ae (pM.o J HP.o.2.1);obtain⟨K,hK⟩:=zN (au l J);rw[hK]at yu HKK LAST MORE BTW;have hcs:=Zn sg dE.o p HP.o.2.2 (by have:=rV.o;omega);rw[rY.o,<-SS.o]at hcs;obtain⟨s1,hs1⟩:=zN (jX (xW (gq sg) p));have CF:Hd (∀w,Calls prog F #[.agg #[.int .i64 x1,.int .i64 x2,.int .i64 x3,.string P,.string ⟨#[]⟩,.int .i64 n]] w fun e w'=>e=.returned (.agg #[.int .i64 s1.f1,.int .i64 s1.f2,.int .i64 s1.f3,.string s1.f4,.string s1.f5,.int .i64 s1.t1,.int .i64 s1.t2,.int .i64 s1.t3,.string s1.t4,.string s1.t5,.bool s1.o])/\w.grownBy w' none):=fun w=>by rw[<-hs1];exact hcs w
     have hent:∀(args:Array Value) (w:World),(callFunc F args).run prog w=.ok (.enter F args) w:=by rw[<-rY.o];exact acx sg dE.o
     have wI:=ae hs1;have bJ:Hd (GOk (xW (gq sg) p) 1000):=aaH _ p HP.o.2.2 1000 (by omega) (by have:=rV.o;omega);have HM1:Hd (LOk [s1] 1):=by show LOk [s1] 1;rw[<-hs1];exact LOk.one bJ.o (by omega)
     have CM:=ae (fun w sl sm (h1:SpS w sl L) (h2:SpS w sm [s1])=>acp sl sm L [s1] (acc.length+1) 1 w h1 h2 DF.o HM1.o (by have:=HA.o;have:=HJ.o;have:=bY.o.2;omega) (by omega));have Ak:=ae (fun(M:List Sp) (h:(∀x,fB M x=(fB L x && fB [s1] x)))=>acA DI.o dE.o HP.o.2.2 (by rw[wI.o];exact h));clear hp1 hp2 hp3 hK hcs hs1 hz;obtain⟨ap,hap⟩:=zN (decide (J<K));rw[hap]at yu;have lF:=ae hap;clear hap;go_wp2_with (first|(go_at_call 132;refine(yu.o _ (rX (az.o.grow bT.o.1) lY.o.2 _ _ _ _ _ _ _)).mono ?_));rintro e u4 ⟨rfl,hr,hg⟩;replace az:=ae hr;have uy:=ae ((uC (T:=.string T) (F:=.func (.func F) #[] #[]) HD0.o x1 x2 x3 P n).growb hg (Ne.symm lY.o.2));replace cu:=ae ((cu.o.grow (KL bT.o.1 bT.o.2 _ _ _ _ _ _ _)).growb hg HB.o.2);replace HG:=ae (ag (ag HG.o (bH (KL bT.o.1 bT.o.2 _ _ _ _ _ _ _) _)) hg)
     clear hr hg k0 k1 k2 k3 k4 k5 k6 k7 kf stf hW0 hD HD0 bT;obtain⟨k0,k1,k2,k3,k4,k5,k6,k7⟩:=uy.o.cells
     cases hfb:acc.isEmpty with
     | false =>
      have xx:Hd (¬acc=[]):=by show ¬_;intro h;rw[h]at hfb;cases hfb
      cases ap with
      | false =>
       go_wp2_with (first|(refine(CF.o _).mono ?_));rintro e u5 ⟨rfl,hg⟩;replace az:=ae (az.o.grow hg);replace cu:=ae (cu.o.grow hg);replace HG:=ae (ag HG.o (bH hg _));clear hg k0 k1 k2 k3 k4 k5 k6 k7;go_wp2_with (first|(go_at_call 161;refine(CM.o _ _ _ (cu.o.grow (aj (ak u5 none) _)).sps (OS.one (base:=0) (s:=s1) (Nat.zero_le _) (heap_alloc_new u5 _)).sps).mono ?_));rintro e u6 ⟨hg,o',n',c',T',rfl,hos,hlk,hnt,hh⟩;have hg':=ag (aj (ak u5 none) _) hg;replace az:=ae (az.o.grow hg');have lh:=ae (ag HG.o (bH hg' _));have bP:Hd (OS u6 B (.slice o' n' c') (outs T')):=hos.base (by have h1:=HG.o.size;rw[HB.o.1]at h1;simp;omega);have dW:=ae hlk;have lZ:=ae (Ak.o _ hh);clear hg hg' hos hlk hnt hh;obtain⟨rfl,rfl,rfl⟩:E0=0/\J0=K/\ts0=acc++[⟨gq sg,p⟩]:=by have:=LAST.o (by first|trivial|rfl) (of_decide_eq_false lF.o);simpa using this
       go_wp2;exact bodyPost_ret (results_tmp2 (t:=2) (u:=3) rfl _ _ _) rfl ⟨_,_,_,rfl,az.o,lh.o,fun _=>⟨outs T',by rw[HB.o.1];exact bP.o,dW.o.mono (by have:=HA.o;have:=HJ.o;have:=bY.o.2;omega),lZ.o⟩⟩
      | true =>
       go_wp2_with (first|(refine(CF.o _).mono ?_));rintro e u5 ⟨rfl,hg⟩;replace az:=ae (az.o.grow hg);replace cu:=ae (cu.o.grow hg);replace HG:=ae (ag HG.o (bH hg _));clear hg k0 k1 k2 k3 k4 k5 k6 k7;go_wp2_with (first|(go_at_call 161;refine(CM.o _ _ _ (cu.o.grow (aj (ak u5 none) _)).sps (OS.one (base:=0) (s:=s1) (Nat.zero_le _) (heap_alloc_new u5 _)).sps).mono ?_));rintro e u6 ⟨hg,o',n',c',T',rfl,hos,hlk,hnt,hh⟩;have hg':=ag (aj (ak u5 none) _) hg;replace az:=ae (az.o.grow hg');have lh:=ae (ag HG.o (bH hg' _));have bP:Hd (OS u6 B (.slice o' n' c') (outs T')):=hos.base (by have h1:=HG.o.size;rw[HB.o.1]at h1;simp;omega);have dW:=ae hlk;have lZ:=ae (Ak.o _ hh);clear hg hg' hos hlk hnt hh;have bD:=ae (MORE.o (by first|trivial|rfl) (of_decide_eq_true lF.o) (fun h=>xx.o h.1.2))
       go_wp2;go_roundw
       case rel=>exact⟨f,K,acc++[⟨gq sg,p⟩],outs T',by simp,HKK.o.2,by have h1:=HF.o;have h2:=HP.o.1;have h3:=of_decide_eq_true lF.o;omega,by rw[List.length_append];have h1:=HA.o;have h2:=HP.o.1;have h3:=HKK.o.1;simp;omega,bD.o.symm,az.o,bP.o,by rw[List.length_append];exact dW.o,lZ.o,lh.o⟩
       case measure =>
        have e1:=Aj.o;have e2:=az.o.place;rw[e1];exact Nat.lt_of_le_of_lt (Nat.le_of_eq (congrArg (s.size - ·) e2)) (by have h1:=HP.o.1;have h2:=HKK.o;have h3:=HP.o.2.1;omega)
     | true =>
      cases htb:decide (sg<0) with
      | false =>
       have hte:=HT.o;rw[htb]at hte;have xx:=ae ((of_decide_eq_false htb:¬sg<0));clear htb
       cases ap with
       | false =>
        go_wp2_with (first|(refine(CF.o _).mono ?_));rintro e u5 ⟨rfl,hg⟩;replace az:=ae (az.o.grow hg);replace cu:=ae (cu.o.grow hg);replace HG:=ae (ag HG.o (bH hg _));clear hg k0 k1 k2 k3 k4 k5 k6 k7;go_wp2_with (first|(go_at_call 161;refine(CM.o _ _ _ (cu.o.grow (aj (ak u5 none) _)).sps (OS.one (base:=0) (s:=s1) (Nat.zero_le _) (heap_alloc_new u5 _)).sps).mono ?_));rintro e u6 ⟨hg,o',n',c',T',rfl,hos,hlk,hnt,hh⟩;have hg':=ag (aj (ak u5 none) _) hg;replace az:=ae (az.o.grow hg');have lh:=ae (ag HG.o (bH hg' _));have bP:Hd (OS u6 B (.slice o' n' c') (outs T')):=hos.base (by have h1:=HG.o.size;rw[HB.o.1]at h1;simp;omega);have dW:=ae hlk;have lZ:=ae (Ak.o _ hh);clear hg hg' hos hlk hnt hh;obtain⟨rfl,rfl,rfl⟩:E0=0/\J0=K/\ts0=acc++[⟨gq sg,p⟩]:=by have:=LAST.o (by first|trivial|rfl) (of_decide_eq_false lF.o);simpa using this
        go_wp2;exact bodyPost_ret (results_tmp2 (t:=2) (u:=3) rfl _ _ _) rfl ⟨_,_,_,rfl,az.o,lh.o,fun _=>⟨outs T',by rw[HB.o.1];exact bP.o,dW.o.mono (by have:=HA.o;have:=HJ.o;have:=bY.o.2;omega),lZ.o⟩⟩
       | true =>
        go_wp2_with (first|(refine(CF.o _).mono ?_));rintro e u5 ⟨rfl,hg⟩;replace az:=ae (az.o.grow hg);replace cu:=ae (cu.o.grow hg);replace HG:=ae (ag HG.o (bH hg _));clear hg k0 k1 k2 k3 k4 k5 k6 k7;go_wp2_with (first|(go_at_call 161;refine(CM.o _ _ _ (cu.o.grow (aj (ak u5 none) _)).sps (OS.one (base:=0) (s:=s1) (Nat.zero_le _) (heap_alloc_new u5 _)).sps).mono ?_));rintro e u6 ⟨hg,o',n',c',T',rfl,hos,hlk,hnt,hh⟩;have hg':=ag (aj (ak u5 none) _) hg;replace az:=ae (az.o.grow hg');have lh:=ae (ag HG.o (bH hg' _));have bP:Hd (OS u6 B (.slice o' n' c') (outs T')):=hos.base (by have h1:=HG.o.size;rw[HB.o.1]at h1;simp;omega);have dW:=ae hlk;have lZ:=ae (Ak.o _ hh);clear hg hg' hos hlk hnt hh;have bD:=ae (MORE.o (by first|trivial|rfl) (of_decide_eq_true lF.o) (fun h=>by have h1:=xx.o;have h2:=h.1.1;omega))
        go_wp2;go_roundw
        case rel=>exact⟨f,K,acc++[⟨gq sg,p⟩],outs T',by simp,HKK.o.2,by have h1:=HF.o;have h2:=HP.o.1;have h3:=of_decide_eq_true lF.o;omega,by rw[List.length_append];have h1:=HA.o;have h2:=HP.o.1;have h3:=HKK.o.1;simp;omega,bD.o.symm,az.o,bP.o,by rw[List.length_append];exact dW.o,lZ.o,lh.o⟩
        case measure =>
         have e1:=Aj.o;have e2:=az.o.place;rw[e1];exact Nat.lt_of_le_of_lt (Nat.le_of_eq (congrArg (s.size - ·) e2)) (by have h1:=HP.o.1;have h2:=HKK.o;have h3:=HP.o.2.1;omega)
      | true =>
       have hte:=HT.o;rw[htb]at hte;have gy:=ae ((of_decide_eq_true htb:sg<0));have HEM:Hd (acc=[]):=by show acc=[];simpa using hfb
       clear htb
       cases ap with
       | false =>
        go_wp2_with (first|(refine(CF.o _).mono ?_));rintro e u5 ⟨rfl,hg⟩;replace az:=ae (az.o.grow hg);replace cu:=ae (cu.o.grow hg);replace HG:=ae (ag HG.o (bH hg _));clear hg k0 k1 k2 k3 k4 k5 k6 k7;go_wp2_with (first|(go_at_call 161;refine(CM.o _ _ _ (cu.o.grow (aj (ak u5 none) _)).sps (OS.one (base:=0) (s:=s1) (Nat.zero_le _) (heap_alloc_new u5 _)).sps).mono ?_));rintro e u6 ⟨hg,o',n',c',T',rfl,hos,hlk,hnt,hh⟩;have hg':=ag (aj (ak u5 none) _) hg;replace az:=ae (az.o.grow hg');have lh:=ae (ag HG.o (bH hg' _));have bP:Hd (OS u6 B (.slice o' n' c') (outs T')):=hos.base (by have h1:=HG.o.size;rw[HB.o.1]at h1;simp;omega);have dW:=ae hlk;have lZ:=ae (Ak.o _ hh);clear hg hg' hos hlk hnt hh;obtain⟨rfl,rfl,rfl⟩:E0=0/\J0=K/\ts0=acc++[⟨gq sg,p⟩]:=by have:=LAST.o (by first|trivial|rfl) (of_decide_eq_false lF.o);simpa using this
        go_wp2;exact bodyPost_ret (results_tmp2 (t:=2) (u:=3) rfl _ _ _) rfl ⟨_,_,_,rfl,az.o,lh.o,fun _=>⟨outs T',by rw[HB.o.1];exact bP.o,dW.o.mono (by have:=HA.o;have:=HJ.o;have:=bY.o.2;omega),lZ.o⟩⟩
       | true =>
        cases mf:decide (l[K]?=some 45) with
        | false =>
         have vZ:=ae ((of_decide_eq_false mf:¬l[K]?=some 45));clear mf;have TNK:=ae (fun w (h:RS b s K w)=>TN.o K w HKK.o.2 vZ.o h);go_wp2_with (first|(go_at_call 128;refine(TNK.o _ az.o).mono ?_));rintro e u7 ⟨rfl,hr,hg⟩;replace az:=ae hr;replace uy:=ae (uy.o.growb hg (Ne.symm lY.o.2));replace cu:=ae (cu.o.growb hg HB.o.2);replace HG:=ae (ag HG.o hg);clear hr hg k0 k1 k2 k3 k4 k5 k6 k7;obtain⟨k0,k1,k2,k3,k4,k5,k6,k7⟩:=uy.o.cells;go_wp2_with (first|(refine(CF.o _).mono ?_));rintro e u5 ⟨rfl,hg⟩;replace az:=ae (az.o.grow hg);replace cu:=ae (cu.o.grow hg);replace HG:=ae (ag HG.o (bH hg _));clear hg k0 k1 k2 k3 k4 k5 k6 k7;go_wp2_with (go_at_call 161;refine(CM.o _ _ _ (cu.o.grow (aj (ak u5 none) _)).sps (OS.one (base:=0) (s:=s1) (Nat.zero_le _) (heap_alloc_new u5 _)).sps).mono ?_)
         rintro e u6 ⟨hg,o',n',c',T',rfl,hos,hlk,hnt,hh⟩;have hg':=ag (aj (ak u5 none) _) hg;replace az:=ae (az.o.grow hg');have lh:=ae (ag HG.o (bH hg' _));have bP:Hd (OS u6 B (.slice o' n' c') (outs T')):=hos.base (by have h1:=HG.o.size;rw[HB.o.1]at h1;simp;omega);have dW:=ae hlk;have lZ:=ae (Ak.o _ hh);clear hg hg' hos hlk hnt hh;have bD:=ae (MORE.o (by first|trivial|rfl) (of_decide_eq_true lF.o) (fun h=>vZ.o h.2));go_wp2;go_roundw
         case rel=>exact⟨f,K,acc++[⟨gq sg,p⟩],outs T',by simp,HKK.o.2,by have h1:=HF.o;have h2:=HP.o.1;have h3:=of_decide_eq_true lF.o;omega,by rw[List.length_append];have h1:=HA.o;have h2:=HP.o.1;have h3:=HKK.o.1;simp;omega,bD.o.symm,az.o,bP.o,by rw[List.length_append];exact dW.o,lZ.o,lh.o⟩
         case measure =>
          have e1:=Aj.o;have e2:=az.o.place;rw[e1];exact Nat.lt_of_le_of_lt (Nat.le_of_eq (congrArg (s.size - ·) e2)) (by have h1:=HP.o.1;have h2:=HKK.o;have h3:=HP.o.2.1;omega)
        | true =>
         have Am:=ae ((of_decide_eq_true mf:l[K]?=some 45));clear mf;have TYK:=ae (fun w (h:RS b s K w)=>TY.o K w Am.o h);have gu:Hd (K+1<=s.size):=by have:=kR Am.o;rw[bY.o.1]at this;exact this
         go_wp2_with (first|(go_at_call 128;refine(TYK.o _ az.o).mono ?_));rintro e u7 ⟨rfl,hr,hg⟩;replace az:=ae hr;replace uy:=ae (uy.o.growb hg (Ne.symm lY.o.2));replace HG:=ae (ag HG.o hg);clear hr hg k0 k1 k2 k3 k4 k5 k6 k7;obtain⟨k0,k1,k2,k3,k4,k5,k6,k7⟩:=uy.o.cells;obtain⟨hb1,hb2,hb3⟩:=BTW.o (by first|trivial|rfl) ⟨⟨gy.o,HEM.o⟩,of_decide_eq_true lF.o,Am.o⟩;have CBK:Hd (∀w,RS b s (K+1) w->Calls prog 160 #[.pointer (some ⟨b,0,none⟩),.agg #[.int .i64 x1,.int .i64 x2,.int .i64 x3,.string P,.string ⟨#[]⟩,.int .i64 n]] w (KJ b s E0 J0 (vV p (ay l (au l (K+1))).2.2) w)):=fun w h=>by rw[hb1,hb2];exact CBT.o (K+1) p x1 x2 x3 P n w SS.o gu.o h
         have acC:=ae hb3;have SV:=ae (FI l _ (by rw[bY.o.1];exact(pM.o (K+1) gu.o).2));clear hb1 hb2 hb3;go_wp2_with (first|(go_at_call 160;refine(CBK.o _ az.o).mono ?_));rintro e u8 ⟨o',n',c',rfl,hr,hg,hok⟩;have HR8:=ae hr;have HG8:=ae (ag HG.o hg);have HO8:=ae (fun(h:E0=0)=>(hok h).base (by have:=HG.o.size;rw[HB.o.1]at this;exact this));clear hr hg hok;go_wp2;refine bodyPost_ret (results_tmp2 (t:=2) (u:=3) rfl _ _ _) rfl ⟨_,_,_,rfl,HR8.o,HG8.o,fun h=>?_⟩;obtain⟨q1,q2⟩:=acC.o h;refine⟨_,by rw[HB.o.1];exact HO8.o h,(LOk.one (aaI p _ HP.o.2.2 (SV.o q2) 1000 (by omega) (by have:=rV.o;omega) (by have:=jh.o (au l (K+1));omega)) (by omega)).mono (by omega),?_⟩;show Has _ (lw ts0);rw[q1];exact acB HP.o.2.2 (SV.o q2)
open Go.RowKit
theorem acD{l:List UInt8}{f i:Nat}{acc:List (List Te)}(h:¬(aX l (l.length+1) (au l i) []).1=0):iK l (f+1) i acc=((aX l (l.length+1) (au l i) []).1,(aX l (l.length+1) (au l i) []).2.1,acc):=by
 have e:jW l i=aX l (l.length+1) (au l i) []:=by unfold jW after;rw[if_neg h]
 rw[iK,e,if_neg h]
theorem KO{l:List UInt8}{i:Nat}(h:(aX l (l.length+1) (au l i) []).1=0):jW l i=if dL l (au l (aX l (l.length+1) (au l i) []).2.1)=true then(0,au l (aX l (l.length+1) (au l i) []).2.1,(aX l (l.length+1) (au l i) []).2.2) else(2,au l (aX l (l.length+1) (au l i) []).2.1,(aX l (l.length+1) (au l i) []).2.2):=by
 unfold jW after;rw[if_pos h]
theorem acE{l:List UInt8}{f i:Nat}{acc:List (List Te)}(h:(aX l (l.length+1) (au l i) []).1=0)(hl:l.length<=au l (aX l (l.length+1) (au l i) []).2.1) :
  iK l (f+1) i acc=(0,au l (aX l (l.length+1) (au l i) []).2.1,acc++[(aX l (l.length+1) (au l i) []).2.2]):=by
 have he:dL l (au l (aX l (l.length+1) (au l i) []).2.1)=true:=by unfold dL;rw[decide_eq_true hl];rfl
 have e:=KO h;rw[if_pos he]at e;rw[iK,e,if_pos rfl];simp only[];rw[if_pos hl]
theorem acF{l:List UInt8}{f i:Nat}{acc:List (List Te)}(h:(aX l (l.length+1) (au l i) []).1=0)(hl:¬l.length<=au l (aX l (l.length+1) (au l i) []).2.1)(hb:¬jU l (au l (aX l (l.length+1) (au l i) []).2.1)=true) :
  iK l (f+1) i acc=(2,au l (aX l (l.length+1) (au l i) []).2.1,acc):=by
 have he:¬dL l (au l (aX l (l.length+1) (au l i) []).2.1)=true:=by
  unfold dL;rw[decide_eq_false hl];simpa using hb
 have e:=KO h;rw[if_neg he]at e;rw[iK,e,if_neg (by simp)]
theorem acG{l:List UInt8}{f i:Nat}{acc:List (List Te)}(h:(aX l (l.length+1) (au l i) []).1=0)(hl:¬l.length<=au l (aX l (l.length+1) (au l i) []).2.1)(hb:jU l (au l (aX l (l.length+1) (au l i) []).2.1)=true) :
  iK l (f+1) i acc=iK l f (au l (aX l (l.length+1) (au l i) []).2.1+2) (acc++[(aX l (l.length+1) (au l i) []).2.2]):=by
 have he:dL l (au l (aX l (l.length+1) (au l i) []).2.1)=true:=by unfold dL;rw[hb];simp
 have e:=KO h;rw[if_pos he]at e;rw[iK,e,if_pos rfl];simp only[];rw[if_neg hl]
theorem KP{w:World}{base g:Nat}{e:TypeId}{size n cap:Nat}{xs:List Value}(h:w.ownsRow base e size (.slice (some ⟨g,0,none⟩) n cap) n xs):∀j u,xs[j]?=some u->w.cell? ((⟨g,0,none⟩:Addr).add j)=some u:=by
 intro j u hu
 rcases h.2 with⟨h1,_⟩|⟨g',cap',cur,hv,hb,hc,h3,h4,h5,h6⟩
 ·cases h1
 ·simp only[Value.slice.injEq,Option.some.injEq,Addr.mk.injEq]at hv;obtain⟨⟨rfl,_,_⟩,_,_⟩:=hv;rw[BF,cell_of_row w g j cur e (0,0) hc];rw[<-h6,List.getElem?_take]at hu;split at hu
  ·simpa using hu
  ·cases hu
theorem acH(L:List Sp):∀u∈L.flatMap bW,u.oneCell'=true:=by
 intro u hu;obtain⟨s,_,hs⟩:=List.mem_flatMap.1 hu;exact Bv s u hs
theorem wJ{w wa wb:World}{row:Option Nat}{b:Nat}(h:w.grownBy wa (some b))(hg:wa.grownBy wb row)(hr:∀q,row=some q->w.heap.size<=q):w.grownBy wb (some b) :=
 ⟨hg.os.trans h.os,hg.tape.trans h.tape,hg.output.trans h.output,Nat.le_trans h.size hg.size,fun k hk hn=>(hg.block k (Nat.lt_of_lt_of_le hk h.size) (fun e=>by have:=hr k e.symm;omega)).trans (h.block k hk hn)⟩
theorem RS.growr{b:Nat}{s:ByteArray}{i:Nat}{w w':World}{row:Option Nat}(h:RS b s i w)(hg:w.grownBy w' row)(hn:some b≠row):RS b s i w':=by
 obtain⟨t,h⟩:=h;exact⟨t,by rw[hg.block b ((aB h)) hn];exact h⟩
theorem OS.far{w:World}{base:Nat}{sl:Value}{L:List Sp}(h:OS w base sl L):∀q,sl.ownBlock=some q->base<=q:=by
 intro q hq
 rcases h.2 with⟨h1,_⟩|⟨g,cap,cur,hv,hb,_⟩
 ·rw[h1]at hq;cases hq
 ·rw[hv]at hq;simp only[Value.ownBlock,Option.some.injEq]at hq;omega
def acI(b:Nat)(s:ByteArray)(R:Int × Nat × List (List Te))(w:World)(e:Ending)(w':World):Prop :=
 ∃(o:Option Addr) (n c:Nat),e=.returned (.tuple #[.slice o n c,.int .i64 R.1])/\RS b s R.2.1 w'/\w.grownBy w' (some b)/\(R.1=0->∃L,OS w' w.heap.size (.slice o n c) L/\LOk L 70000/\Has L (jq R.2.2))
theorem acJ:Has [] (jq []):=fun v _=>rfl
theorem acK{L M:List Sp}{S:List (List Te)}{ts:List Te}(h:Has L (jq S))(h':Has M (lw ts)):Has (L++M) (jq (S++[ts])):=fun v hv=>by rw[aaK,h v hv,h' v hv,aaE]
theorem acL(b:Nat)(s:ByteArray)(w:World)(h:RS b s 0 w)(hs:s.size<=200) :
  Calls prog 102 #[.pointer (some ⟨b,0,none⟩)] w (acI b s (iK s.data.toList (s.data.toList.length+1) 0 []) w):=by
 obtain⟨l,hl⟩:=zN (s.data.toList);have hll:l.length=s.size:=by rw[<-hl];simp
 have bY:Hd (l.length=s.size/\s.size<=200):=⟨hll,hs⟩;have CS:Hd (∀i w,i<=s.size->RS b s i w->Calls prog 131 #[.pointer (some ⟨b,0,none⟩)] w (KN b s (aX l (l.length+1) (au l i) []) w)):=fun i w hi h=>by rw[<-hl];exact set_any b s i w hi h hs
 have CB:Hd (∀i w,i<=s.size->RS b s i w->Calls prog 132 #[.pointer (some ⟨b,0,none⟩)] w fun e w'=>e=.returned (.bool (decide (i<au l i)))/\RS b s (au l i) w'/\w.grownBy w' (some b)):=fun i w hi h=>by rw[<-hl];exact JU b s i w hi h (by omega)
 have CE:=ae (EI b s);have CT:Hd (∀i w,i<=s.size->RS b s i w->Calls prog 128 #[.pointer (some ⟨b,0,none⟩),.string ⟨#[124,124]⟩] w fun e w'=>e=.returned (.bool (jU l i))/\RS b s (if jU l i=true then i+2 else i) w'/\w.grownBy w' (some b)):=fun i w hi h=>by
  have:=take_any b s ⟨#[124,124]⟩ i w hi h (by omega) (by show 2 < _;decide);rw[show(ByteArray.mk #[124,124]).data.toList=[124,124] from rfl,fQ,hl]at this;exact this
 have pM:Hd (∀i,i<=s.size->i<=au l i/\au l i<=s.size):=fun i hi=>⟨qy l i,by have:=pG l i (by rw[hll];exact hi);rw[hll]at this;exact this⟩
 have kF:Hd (∀i,i<=s.size->(aX l (l.length+1) (au l i) []).1=0->i<=(aX l (l.length+1) (au l i) []).2.1/\(aX l (l.length+1) (au l i) []).2.1<=s.size):=fun i hi h0=>by
  have h1:=pM.o i hi;have h2:=JW l (l.length+1) (au l i) [] (by rw[hll];exact h1.2) h0;exact⟨by omega,by rw[<-hll];exact h2.2⟩
 have HI:=ae h;have rW:Hd (b<w.heap.size):=by obtain⟨t,h⟩:=h;exact(aB h)
 rw[hl];obtain⟨E0,J0,S0,hR⟩:∃E0 J0 S0,iK l (l.length+1) 0 []=(E0,J0,S0):=⟨_,_,_,rfl⟩;have HR0:=ae hR;rw[hR];obtain⟨B,hB⟩:=zN (w.heap.size);have HB:Hd (w.heap.size=B/\b<B):=⟨hB,by rw[<-hB];exact rW.o⟩;clear hl hll hR h hs hB;go_enter func102,ntmps102;go_wp2;go_loopw [4] (fun va wr=>∃(f j:Nat) (acc:List (List Te)) (L:List Sp),j<=s.size/\l.length<f+j/\acc.length<=j/\iK l f j acc=(E0,J0,S0)/\RS b s j wr/\OS wr B va L/\LOk L (300*acc.length)/\Has L (jq acc)/\w.grownBy wr (some b)) (fun _ wr=>s.size-placeOf b wr)
 case atStart=>exact⟨l.length+1,0,[],[],Nat.zero_le _,by omega,Nat.le_refl _,HR0.o,HI.o,OS.emp _ _,⟨rfl,fun s hs=>(by cases hs),Nat.le_refl _⟩,acJ,ak _ _⟩
 case round =>
  obtain⟨f,j,acc,L,hj,hf,ha,hps,hrs,hos,DC,hhas,hg⟩:=hrel;clear HI HR0;obtain⟨o,n0,c0,rfl⟩:=hos.slice;obtain⟨f,rfl⟩:∃f',f=f'+1:=by
   cases f with
   | zero=>have:=bY.o.1;omega
   | succ f=>exact⟨f,rfl⟩
  have HJ:=ae hj;have HF:=ae hf;have HA:=ae ha;have DD:=ae hps;have az:=ae hrs;have Aj:=ae hrs.place;have cu:=ae hos;have DF:=ae DC;have DI:=ae hhas;have HG:=ae hg;clear hj hf ha hps hrs hos DC hhas hg;have SX:=ae (fun w (h:RS b s j w)=>CS.o j w HJ.o h);have uH:=ae (kF.o j HJ.o);have BAD:Hd (¬(aX l (l.length+1) (au l j) []).1=0->iK l (f+1) j acc=((aX l (l.length+1) (au l j) []).1,(aX l (l.length+1) (au l j) []).2.1,acc)):=fun h=>acD h
  have LAST:Hd ((aX l (l.length+1) (au l j) []).1=0->l.length<=au l (aX l (l.length+1) (au l j) []).2.1->iK l (f+1) j acc=(0,au l (aX l (l.length+1) (au l j) []).2.1,acc++[(aX l (l.length+1) (au l j) []).2.2])):=fun h h1=>acE h h1
  have TXT:Hd ((aX l (l.length+1) (au l j) []).1=0->¬l.length<=au l (aX l (l.length+1) (au l j) []).2.1->¬jU l (au l (aX l (l.length+1) (au l j) []).2.1)=true->iK l (f+1) j acc=(2,au l (aX l (l.length+1) (au l j) []).2.1,acc)):=fun h h1 h2=>acF h h1 h2
  have MORE:Hd ((aX l (l.length+1) (au l j) []).1=0->¬l.length<=au l (aX l (l.length+1) (au l j) []).2.1->jU l (au l (aX l (l.length+1) (au l j) []).2.1)=true->iK l (f+1) j acc=iK l f (au l (aX l (l.length+1) (au l j) []).2.1+2) (acc++[(aX l (l.length+1) (au l j) []).2.2])):=fun h h1 h2=>acG h h1 h2
  obtain⟨E,J,ts,hR⟩:∃E J ts,aX l (l.length+1) (au l j) []=(E,J,ts):=⟨_,_,_,rfl⟩;rw[hR]at SX uH BAD LAST TXT MORE;simp only[]at uH BAD LAST TXT MORE;rw[DD.o]at BAD LAST TXT MORE;clear hR;go_wp2_with (go_at_call 131;refine(SX.o _ az.o).mono ?_);rintro e u1 ⟨o1,n1,c1,rfl,hr,hg,hok⟩;replace az:Hd (RS b s J u1):=hr;replace cu:=ae (cu.o.growb hg HB.o.2);have Kr:Hd (B<=wr.heap.size):=by have:=HG.o.size;rw[HB.o.1]at this;exact this
  replace HG:=ae (ag HG.o hg);have dF:Hd (E=0->∃L,OS u1 B (.slice o1 n1 c1) L/\LOk L 300/\Has L (lw ts)):=fun h0=>by
   obtain⟨L1,h1,h2,h3⟩:=hok h0;exact⟨L1,h1.base Kr.o,h2,h3⟩
  clear hr hg hok
  cases hz:(E == 0) with
  | false =>
   have hE0:¬E=0:=by simpa using hz
   have HB2:=ae (BAD.o hE0);have jC:=ae hE0;clear hE0;go_wp2;refine bodyPost_ret (results_tmp2 (t:=2) (u:=3) rfl _ _ _) rfl ?_;rw[HB2.o];exact⟨_,_,_,rfl,az.o,HG.o,fun h=>absurd h jC.o⟩
  | true =>
   have hE0:E=0:=by simpa using hz
   subst hE0;obtain⟨hp1,hp2⟩:=uH.o rfl;have HP:Hd (j<=J/\J<=s.size):=⟨hp1,hp2⟩;obtain⟨L1,ho1,hl1,hh1⟩:=dF.o rfl;have dK:=ae ho1;have jQ:Hd (n1=L1.length/\n0=L.length):=by
    constructor
    ·rcases ho1.2 with⟨h1,h2⟩|⟨g,cap,cur,hv,_⟩
     ·cases h1;exact h2.symm
     ·cases hv;rfl
    ·rcases cu.o.2 with⟨h1,h2⟩|⟨g,cap,cur,hv,_⟩
     ·cases h1;exact h2.symm
     ·cases hv;rfl
   have dW:Hd (LOk (L++L1) (300*(acc++[ts]).length)):=by
    have:=DF.o.app hl1;refine this.mono ?_;rw[List.length_append];simp;omega
   have lZ:=ae (acK DI.o hh1);have yu:=ae (fun w (h:RS b s J w)=>CB.o J w HP.o.2 h);have HKK:=ae (pM.o J HP.o.2);obtain⟨K,hK⟩:=zN (au l J);rw[hK]at yu HKK LAST TXT MORE;clear hp1 hp2 hK hz ho1 hl1 hh1 dF;have hinfo:=Bq;obtain⟨i1,hj0,hjj⟩:=Option.map_eq_some_iff.1 hinfo;have hy0:i1.zero=some (.agg #[.int .i64 0,.int .i64 0,.int .i64 0,.string ⟨#[]⟩,.string ⟨#[]⟩,.int .i64 0,.int .i64 0,.int .i64 0,.string ⟨#[]⟩,.string ⟨#[]⟩,.bool false]):=congrArg (·.1) hjj;have hy1:i1.size=11:=congrArg (·.2.1) hjj;have hyb:i1.bytes=120:=congrArg (·.2.2) hjj;clear hjj hinfo;have SY:Hd (L.length+L1.length<=70000):=by
    have h1:=dW.o.ln;have h2:=HA.o;have h3:=HJ.o;have h4:=bY.o.2;rw[List.length_append,List.length_append]at h1;show _<=_;simp at h1;omega
   have hfm:=dK.o.2
   rcases hfm with⟨h1,h2⟩|⟨g,cap,cur,hv,_⟩
   ·simp only[Value.slice.injEq]at h1;obtain⟨rfl,rfl,rfl⟩:=h1;have hL1:=List.length_eq_zero_iff.1 h2;have bP:Hd (OS u1 B (.slice o n0 c0) (L++L1)):=by show OS u1 B _ _;rw[hL1,List.append_nil];exact cu.o
    clear h2 hL1;go_wp2_with (first|(at_builtin;refine wpList_append_own_none rfl _ _ 139 rfl B 179 i1 11 underlying139 hj0 _ _ _ rfl cu.o rfl ?_));clear hj0 hy0 hy1 hyb;obtain⟨o2,n2,c2,hva⟩:=bP.o.slice;rw[hva]at bP
    try rw[hva]
    clear hva;go_wp2_with (go_at_call 132;refine(yu.o _ az.o).mono ?_);rintro e u3 ⟨rfl,hr,hg⟩;replace az:=ae hr;replace bP:=ae (bP.o.growb hg HB.o.2);replace HG:=ae (ag HG.o hg);clear hr hg;have uI:=ae (CE.o K);have oI:=ae (fun w (h:RS b s K w)=>CT.o K w HKK.o.2 h)
    cases hend:decide (K=s.size) with
    | true =>
     rw[hend]at uI;have hke:=of_decide_eq_true hend;obtain⟨rfl,rfl,rfl⟩:E0=0/\J0=K/\S0=acc++[ts]:=by have:=LAST.o (by first|trivial|rfl) (by have:=bY.o.1;omega);simpa using this
     clear hend hke;go_wp2_with (go_at_call 101;refine(uI.o _ az.o).mono ?_);rintro e u4 ⟨rfl,n,hn⟩;replace az:Hd (RS b s J0 u4):=by show RS b s J0 u4;rw[hn];exact az.o.drew n
     replace bP:Hd (OS u4 B (.slice o2 n2 c2) (L++L1)):=by show OS u4 B _ _;rw[hn];exact bP.o
     replace HG:Hd (w.grownBy u4 (some b)):=by show w.grownBy u4 (some b);rw[hn];exact aG HG.o n
     clear hn;go_wp2;exact bodyPost_ret (results_tmp2 (t:=2) (u:=3) rfl _ _ _) rfl ⟨_,_,_,rfl,az.o,HG.o,fun _=>⟨L++L1,by rw[HB.o.1];exact bP.o,dW.o.mono (by rw[List.length_append];have h2:=HA.o;have h3:=HJ.o;have h4:=bY.o.2;simp;omega),lZ.o⟩⟩
    | false =>
     rw[hend]at uI;have mX:Hd (¬l.length<=K):=by show ¬_;have:=of_decide_eq_false hend;have:=bY.o.1;have:=HKK.o.2;omega
     clear hend;go_wp2_with (go_at_call 101;refine(uI.o _ az.o).mono ?_);rintro e u4 ⟨rfl,n,hn⟩;replace az:Hd (RS b s K u4):=by show RS b s K u4;rw[hn];exact az.o.drew n
     replace bP:Hd (OS u4 B (.slice o2 n2 c2) (L++L1)):=by show OS u4 B _ _;rw[hn];exact bP.o
     replace HG:Hd (w.grownBy u4 (some b)):=by show w.grownBy u4 (some b);rw[hn];exact aG HG.o n
     clear hn
     cases hbar:jU l K with
     | true =>
      rw[hbar]at oI;have KQ:Hd (∀w,RS b s K w->Calls prog 128 #[.pointer (some ⟨b,0,none⟩),.string ⟨#[124,124]⟩] w fun e w'=>e=.returned (.bool true)/\RS b s (K+2) w'/\w.grownBy w' (some b)):=oI.o;have bD:=ae (MORE.o (by first|trivial|rfl) mX.o hbar);have gI:Hd (K+2<=s.size):=by have:=FW l K hbar;rw[bY.o.1]at this;exact this
      clear hbar oI;go_wp2_with (go_at_call 128;refine(KQ.o _ az.o).mono ?_);rintro e u5 ⟨rfl,hr,hg⟩;replace az:=ae hr;replace bP:=ae (bP.o.growb hg HB.o.2);replace HG:=ae (ag HG.o hg);clear hr hg;go_wp2;go_roundw
      case rel=>exact⟨f,K+2,acc++[ts],L++L1,gI.o,by have h1:=HF.o;have h2:=HP.o.1;have h3:=HKK.o.1;omega,by rw[List.length_append];have h1:=HA.o;have h2:=HP.o.1;have h3:=HKK.o.1;simp;omega,bD.o.symm,az.o,bP.o,dW.o,lZ.o,HG.o⟩
      case measure =>
       have e1:=Aj.o;have e2:=az.o.place;rw[e1];exact Nat.lt_of_le_of_lt (Nat.le_of_eq (congrArg (s.size - ·) e2)) (by have h1:=HP.o;have h2:=HKK.o;have h3:=gI.o;omega)
     | false =>
      rw[hbar]at oI;have KR:Hd (∀w,RS b s K w->Calls prog 128 #[.pointer (some ⟨b,0,none⟩),.string ⟨#[124,124]⟩] w fun e w'=>e=.returned (.bool false)/\RS b s K w'/\w.grownBy w' (some b)):=oI.o;have bD:=ae (TXT.o (by first|trivial|rfl) mX.o (by rw[hbar];decide));clear hbar oI;go_wp2_with (go_at_call 128;refine(KR.o _ az.o).mono ?_);rintro e u5 ⟨rfl,hr,hg⟩;replace az:=ae hr;replace HG:=ae (ag HG.o hg);clear hr hg;go_wp2;refine bodyPost_ret (results_tmp2 (t:=2) (u:=3) rfl _ _ _) rfl ?_;rw[bD.o];exact⟨_,_,_,rfl,az.o,HG.o,fun h=>absurd h (by simp)⟩
   ·simp only[Value.slice.injEq]at hv;obtain⟨rfl,hn1,rfl⟩:=hv;subst hn1;go_wp2_with (first|(at_builtin;refine wpList_append_own _ rfl _ _ 139 rfl B 179 i1 _ 11 120 underlying139 hj0 hy0 hy1 hyb rfl (by decide) _ _ _ rfl cu.o _ _ _ (L1.flatMap bW) rfl dK.o.1 (KP dK.o) (acH L1) (by unfold maxLen;have:=SY.o;omega) (by have:=SY.o;omega) (by have h1:=HG.o.size;rw[HB.o.1]at h1;exact h1) ?_;intro v' u2 hown hgrow _));have bP:Hd (OS u2 B v' (L++L1)):=by show OS u2 B v' _;unfold OS;rw[List.length_append,List.flatMap_append];exact hown
    have di:=cu.o.far;replace az:=ae (az.o.growr hgrow (fun e=>by have:=di b e.symm;have:=HB.o.2;omega));replace HG:=ae (wJ HG.o hgrow (fun q hq=>by rw[HB.o.1];exact di q hq));clear hown hgrow di hj0 hy0 hy1 hyb;obtain⟨o2,n2,c2,hva⟩:=bP.o.slice;rw[hva]at bP
    try rw[hva]
    clear hva;go_wp2_with (go_at_call 132;refine(yu.o _ az.o).mono ?_);rintro e u3 ⟨rfl,hr,hg⟩;replace az:=ae hr;replace bP:=ae (bP.o.growb hg HB.o.2);replace HG:=ae (ag HG.o hg);clear hr hg;have uI:=ae (CE.o K);have oI:=ae (fun w (h:RS b s K w)=>CT.o K w HKK.o.2 h)
    cases hend:decide (K=s.size) with
    | true =>
     rw[hend]at uI;have hke:=of_decide_eq_true hend;obtain⟨rfl,rfl,rfl⟩:E0=0/\J0=K/\S0=acc++[ts]:=by have:=LAST.o (by first|trivial|rfl) (by have:=bY.o.1;omega);simpa using this
     clear hend hke;go_wp2_with (go_at_call 101;refine(uI.o _ az.o).mono ?_);rintro e u4 ⟨rfl,n,hn⟩;replace az:Hd (RS b s J0 u4):=by show RS b s J0 u4;rw[hn];exact az.o.drew n
     replace bP:Hd (OS u4 B (.slice o2 n2 c2) (L++L1)):=by show OS u4 B _ _;rw[hn];exact bP.o
     replace HG:Hd (w.grownBy u4 (some b)):=by show w.grownBy u4 (some b);rw[hn];exact aG HG.o n
     clear hn;go_wp2;exact bodyPost_ret (results_tmp2 (t:=2) (u:=3) rfl _ _ _) rfl ⟨_,_,_,rfl,az.o,HG.o,fun _=>⟨L++L1,by rw[HB.o.1];exact bP.o,dW.o.mono (by rw[List.length_append];have h2:=HA.o;have h3:=HJ.o;have h4:=bY.o.2;simp;omega),lZ.o⟩⟩
    | false =>
     rw[hend]at uI;have mX:Hd (¬l.length<=K):=by show ¬_;have:=of_decide_eq_false hend;have:=bY.o.1;have:=HKK.o.2;omega
     clear hend;go_wp2_with (go_at_call 101;refine(uI.o _ az.o).mono ?_);rintro e u4 ⟨rfl,n,hn⟩;replace az:Hd (RS b s K u4):=by show RS b s K u4;rw[hn];exact az.o.drew n
     replace bP:Hd (OS u4 B (.slice o2 n2 c2) (L++L1)):=by show OS u4 B _ _;rw[hn];exact bP.o
     replace HG:Hd (w.grownBy u4 (some b)):=by show w.grownBy u4 (some b);rw[hn];exact aG HG.o n
     clear hn
     cases hbar:jU l K with
     | true =>
      rw[hbar]at oI;have KQ:Hd (∀w,RS b s K w->Calls prog 128 #[.pointer (some ⟨b,0,none⟩),.string ⟨#[124,124]⟩] w fun e w'=>e=.returned (.bool true)/\RS b s (K+2) w'/\w.grownBy w' (some b)):=oI.o;have bD:=ae (MORE.o (by first|trivial|rfl) mX.o hbar);have gI:Hd (K+2<=s.size):=by have:=FW l K hbar;rw[bY.o.1]at this;exact this
      clear hbar oI;go_wp2_with (go_at_call 128;refine(KQ.o _ az.o).mono ?_);rintro e u5 ⟨rfl,hr,hg⟩;replace az:=ae hr;replace bP:=ae (bP.o.growb hg HB.o.2);replace HG:=ae (ag HG.o hg);clear hr hg;go_wp2;go_roundw
      case rel=>exact⟨f,K+2,acc++[ts],L++L1,gI.o,by have h1:=HF.o;have h2:=HP.o.1;have h3:=HKK.o.1;omega,by rw[List.length_append];have h1:=HA.o;have h2:=HP.o.1;have h3:=HKK.o.1;simp;omega,bD.o.symm,az.o,bP.o,dW.o,lZ.o,HG.o⟩
      case measure =>
       have e1:=Aj.o;have e2:=az.o.place;rw[e1];exact Nat.lt_of_le_of_lt (Nat.le_of_eq (congrArg (s.size - ·) e2)) (by have h1:=HP.o;have h2:=HKK.o;have h3:=gI.o;omega)
     | false =>
      rw[hbar]at oI;have KR:Hd (∀w,RS b s K w->Calls prog 128 #[.pointer (some ⟨b,0,none⟩),.string ⟨#[124,124]⟩] w fun e w'=>e=.returned (.bool false)/\RS b s K w'/\w.grownBy w' (some b)):=oI.o;have bD:=ae (TXT.o (by first|trivial|rfl) mX.o (by rw[hbar];decide));clear hbar oI;go_wp2_with (go_at_call 128;refine(KR.o _ az.o).mono ?_);rintro e u5 ⟨rfl,hr,hg⟩;replace az:=ae hr;replace HG:=ae (ag HG.o hg);clear hr hg;go_wp2;refine bodyPost_ret (results_tmp2 (t:=2) (u:=3) rfl _ _ _) rfl ?_;rw[bD.o];exact⟨_,_,_,rfl,az.o,HG.o,fun h=>absurd h (by simp)⟩
open Go.RowKit
def acM(R:Int × Nat × List (List Te))(w:World)(e:Ending)(w':World):Prop :=
 ∃(o:Option Addr) (n c:Nat),e=.returned (.tuple #[.slice o n c,.int .i64 R.1,.int .i64 (R.2.1:Int)])/\w.grownBy w' none/\(¬R.1=0->Value.slice o n c=.slice none 0 0) ∧
  (R.1=0->∃T,OS w' w.heap.size (.slice o n c) (outs T)/\LOk (outs T) 70000/\NT T 2/\Has (outs T) (jq R.2.2))
theorem acN(l:List UInt8)(h:¬200<l.length):((iK l (l.length+1) 0 []).1=0->fP l=(0,0,(iK l (l.length+1) 0 []).2.2))/\(¬(iK l (l.length+1) 0 []).1=0->fP l=((iK l (l.length+1) 0 []).1,(iK l (l.length+1) 0 []).2.1,[])):=by
 obtain⟨h1,h2,h3⟩:=QV l (l.length+1) 0 [] (Nat.zero_le _);unfold fP;rw[if_neg h];constructor
 ·intro h0;rw[if_pos (h1.symm.trans h0),h3 h0]
 ·intro h0;rw[if_neg (fun e=>h0 (h1.trans e)),h1,h2]
theorem S9(s:ByteArray)(w:World)(hs:s.size<2 ^ 62) :
  Calls prog 78 #[.string s] w (acM (fP s.data.toList) w):=by
 by_cases h200:200<s.size
 ·have hR:fP s.data.toList=(1,0,[]):=by unfold fP;rw[if_pos (by simpa using h200)]
  rw[hR];clear hR;go_enter func78,ntmps78;go_wp2;exact bodyPost_ret (results_tmp3 (t:=2) (u:=3) (v:=4) rfl _ _ _) rfl ⟨_,_,_,rfl,ak _ _,fun _=>rfl,fun h=>absurd h (by simp)⟩
 ·have hR:=acN s.data.toList (by simpa using h200);have CS:=ae (fun b w (h:RS b s 0 w)=>acL b s w h (by omega));have CN:=ae (fun(sl:Value) (L:List Sp) (w:World) (h1:SpS w sl L) (h2:LOk L 70000)=>aco sl L 70000 w h1 h2 (by omega));obtain⟨E,J,S,hP⟩:∃E J S,iK s.data.toList (s.data.toList.length+1) 0 []=(E,J,S):=⟨_,_,_,rfl⟩;rw[hP]at CS hR;have HR:Hd ((E=0->fP s.data.toList=(0,0,S))/\(¬E=0->fP s.data.toList=(E,J,[]))):=hR;obtain⟨R,hRR⟩:=zN (fP s.data.toList);rw[hRR]at HR ⊢;clear hR hP hRR hs;go_enter func78,ntmps78;go_wp2_with (go_at_call 102;refine(CS.o _ _ ⟨_,heap_alloc_new w _⟩).mono ?_);rintro e w1 ⟨o,n,c,rfl,hr,hg,hok⟩;obtain⟨A,hA⟩:=zN (w.heap.size);have HG:=ae (Oj hg);have hsz:w.heap.size<=(w.alloc (.cells #[.string s,.int .i64 0] 174)).heap.size:=by simp
  have dF:Hd (E=0->∃L,OS w1 w.heap.size (.slice o n c) L/\LOk L 70000/\Has L (jq S)):=fun h=>by
   obtain⟨L,h1,h2,h3⟩:=hok h;exact⟨L,h1.base hsz,h2,h3⟩
  rw[hA]at hr;have HR1:Hd (RS A s J w1):=hr;have HA:=ae hA
  try rw[hA]
  clear hA hr hg hok hsz
  cases hz:(E == 0) with
  | false =>
   have hE0:¬E=0:=by simpa using hz
   have jC:=ae hE0;have e1:=HR1.o.c1;clear hE0;go_wp2;go_quiet (fail);go_wp2;refine bodyPost_ret (results_tmp3 (t:=2) (u:=3) (v:=4) rfl _ _ _) rfl ?_;rw[HR.o.2 jC.o];exact⟨_,_,_,rfl,aG HG.o _,fun _=>rfl,fun h=>absurd h jC.o⟩
  | true =>
   have hE0:E=0:=by simpa using hz
   subst hE0;obtain⟨L,ho,hl,hh⟩:=dF.o rfl;have CNL:=ae (CN.o _ L w1 ho.sps hl);have HH:=ae hh;have HRR:=ae (HR.o.1 rfl);clear ho hl hh hz dF HR;go_wp2_with (go_at_call 103;refine CNL.o.mono ?_);rintro e w2 ⟨hg,o',n',c',T,rfl,hos,hlk,hnt,hh⟩;have HF:Hd (w.grownBy w2 none/\OS w2 w.heap.size (.slice o' n' c') (outs T)/\LOk (outs T) 70000/\NT T 2/\Has (outs T) (jq S)) :=
    ⟨ag HG.o hg,hos.base HG.o.size,hlk,hnt,fun v hv=>by rw[hh];exact HH.o v hv⟩
   clear hg hos hlk hnt hh;go_wp2;refine bodyPost_ret (results_tmp3 (t:=2) (u:=3) (v:=4) rfl _ _ _) rfl ?_;rw[HRR.o];exact⟨_,_,_,rfl,HF.o.1,fun h=>absurd rfl h,fun _=>⟨T,HF.o.2.1,HF.o.2.2.1,HF.o.2.2.2.1,HF.o.2.2.2.2⟩⟩
open Go.RowKit Go.Maps
def jd(r v:ByteArray):Bool:=jq (fP r.data.toList).2.2 (cutV (bi v))
def jr(L:List Re)(k:Nat):ByteArray:=match L[k]? with|some x=>x.ve|none=>⟨#[]⟩
theorem Tc(L:List Re)(k:Nat)(h:k<L.length):jr L k=L[k].ve:=by simp[jr,List.getElem?_eq_getElem h]
def lG(N:List Nd)(L:List Re)(j q:Nat):Bool:=decide (q<L.length) && (match N[j]? with|some y=>decide (y.n=aZ L q) && jd y.r (jr L q)|none=>false)
theorem Ap(N:List Nd)(L:List Re)(j q:Nat)(hj:j<N.length)(hq:q<L.length):lG N L j q=(decide (N[j].n=aZ L q) && jd N[j].r (jr L q)):=by simp[lG,List.getElem?_eq_getElem hj,hq]
theorem Td{N:List Nd}{L:List Re}{j q:Nat}(h:lG N L j q=true):q<L.length:=by
 unfold lG at h;rw[Bool.and_eq_true]at h;exact of_decide_eq_true h.1
def qM(N:List Nd)(L:List Re)(q:Nat):Bool:=decide (q<L.length) && N.any fun y=>decide (y.n=aZ L q)
def yw(N:List Nd)(L:List Re)(i q:Nat):Bool:=match N[i]? with|some y=>decide (y.n=aZ L q)|none=>false
theorem Gh(N:List Nd)(L:List Re)(i q:Nat)(hi:i<N.length):yw N L i q=decide (N[i].n=aZ L q):=by simp[yw,List.getElem?_eq_getElem hi]
def qN(N:List Nd)(L:List Re)(i k q:Nat):Bool:=decide (q<L.length) && ((N.take i).any (fun y=>decide (y.n=aZ L q)) || (decide (q<k) && yw N L i q))
def qO(N:List Nd)(L:List Re)(i k j q:Nat):Bool:=(decide (j<i) || (decide (j=i) && decide (q<k))) && lG N L j q
theorem acO(N:List Nd)(L:List Re)(q:Nat):qN N L 0 0 q=false:=by simp[qN]
theorem acP(N:List Nd)(L:List Re)(j q:Nat):qO N L 0 0 j q=false:=by simp[qO]
theorem Tf(q k:Nat):decide (q<k+1)=(decide (q<k) || decide (k=q)):=by
 rw[Bool.eq_iff_iff];simp;omega
theorem KT(N:List Nd)(L:List Re)(i k q:Nat)(hk:k<L.length):qN N L i (k+1) q=(qN N L i k q || (decide (k=q) && yw N L i k)):=by
 unfold qN;rw[Tf]
 by_cases h:k=q
 ·subst h;simp[hk]
 ·simp[h]
theorem KU(N:List Nd)(L:List Re)(i k j q:Nat):qO N L i (k+1) j q=(qO N L i k j q || (decide (j=i) && (decide (k=q) && lG N L i k))):=by
 unfold qO;rw[Tf]
 by_cases h:k=q
 ·subst h
  by_cases hj:j=i
  ·subst hj;simp
  ·simp[hj]
 ·simp[h]
theorem acQ(N:List Nd)(L:List Re)(i q:Nat)(hi:i<N.length):qN N L i L.length q=qN N L (i+1) 0 q:=by
 unfold qN;rw[List.take_succ_eq_append_getElem hi,List.any_append,Gh N L i q hi]
 by_cases h:q<L.length
 ·simp[h]
 ·simp[h]
theorem acR(N:List Nd)(L:List Re)(i j q:Nat):qO N L i L.length j q=qO N L (i+1) 0 j q:=by
 unfold qO
 cases hm:lG N L j q with
 | false=>simp
 | true =>
  have:=Td hm;simp[this];rw[Bool.eq_iff_iff];simp;omega
theorem acS(N:List Nd)(L:List Re)(q:Nat):qN N L N.length 0 q=qM N L q:=by
 unfold qN qM;rw[List.take_length];simp
theorem acT(N:List Nd)(L:List Re)(j q:Nat)(hj:j<N.length):qO N L N.length 0 j q=lG N L j q:=by
 unfold qO;simp[hj]
theorem acU{s:ByteArray}(h:okV s=true):ul (cutV (bi s)):=by
 unfold okV at h;have h0:=of_decide_eq_true h;have h1:kE (gV s.data.toList).2.2=true:=by
  unfold gV at h0 ⊢;split at h0
  ·exact absurd h0 (by decide)
  ·rename_i hn;rw[if_neg hn];exact(V6 _ h0).2
 unfold kE at h1;simp only[Bool.and_eq_true,oQ]at h1;exact⟨h1.1.1,h1.2.1.1,h1.2.2.1.1,h1.2.2.2.1⟩
def VrS(w:World)(a:Addr)(L:List Re):Prop:=∀j (hj:j<L.length),w.cell? (a.add (j*5))=some (.int .i64 (bi L[j].ve).major)/\w.cell? ⟨(a.add (j*5)).block,(a.add (j*5)).off+1,none⟩=some (.int .i64 (bi L[j].ve).minor)/\w.cell? ⟨(a.add (j*5)).block,(a.add (j*5)).off+2,none⟩=some (.int .i64 (bi L[j].ve).patch)/\w.cell? ⟨(a.add (j*5)).block,(a.add (j*5)).off+3,none⟩=some (.string ⟨(bi L[j].ve).pre.toArray⟩)/\w.cell? ⟨(a.add (j*5)).block,(a.add (j*5)).off+4,none⟩=some (.string ⟨(bi L[j].ve).build.toArray⟩)
theorem VrS.grow{w w':World}{a:Addr}{L:List Re}(h:VrS w a L)(hg:w.grownBy w' none):VrS w' a L:=fun j hj=>by
 obtain⟨h0,h1,h2,h3,h4⟩:=h j hj;exact⟨hg.cell h0 (by simp),hg.cell h1 (by simp),hg.cell h2 (by simp),hg.cell h3 (by simp),hg.cell h4 (by simp)⟩
structure E2(b g:Nat)(w w':World):Prop where
 os:w'.os=w.os
 tape:w'.tape=w.tape
 output:w'.output=w.output
 size:w.heap.size<=w'.heap.size
 block:∀k,k<w.heap.size->¬k=b->¬k=g->w'.heap[k]?=w.heap[k]?
theorem E2.refl(b g:Nat)(w:World):E2 b g w w:=⟨rfl,rfl,rfl,Nat.le_refl _,fun _ _ _ _=>rfl⟩
theorem E2.then{b g:Nat}{w w' w'':World}(h:E2 b g w w')(hg:w'.grownBy w'' none):E2 b g w w'' :=
 ⟨hg.os.trans h.os,hg.tape.trans h.tape,hg.output.trans h.output,Nat.le_trans h.size hg.size,fun k hk h1 h2=>(hg.block k (Nat.lt_of_lt_of_le hk h.size) (by simp)).trans (h.block k hk h1 h2)⟩
theorem E2.set{b g:Nat}{w w':World}(h:E2 b g w w'){q:Nat}(hq:q=b\/q=g)(o:Nat)(v:Value):E2 b g w (w'.setCell ⟨q,o,none⟩ v) :=
 ⟨h.os,h.tape,h.output,by simpa [World.setCell] using h.size,fun k hk h1 h2=>(heap_setCell_other w' _ k _ (by rcases hq with rfl|rfl<;>assumption)).trans (h.block k hk h1 h2)⟩
theorem E2.gb{b g:Nat}{w0 w w':World}(h:E2 b g w w')(hg:w0.grownBy w none)(hb:w0.heap.size<=b)(hgg:w0.heap.size<=g):w0.grownBy w' none :=
 ⟨h.os.trans hg.os,h.tape.trans hg.tape,h.output.trans hg.output,Nat.le_trans hg.size h.size,fun k hk hn=>(h.block k (Nat.lt_of_lt_of_le hk hg.size) (by omega) (by omega)).trans (hg.block k hk hn)⟩
theorem E2.own{b g:Nat}{w w':World}(h:E2 b g w w'){base:Nat}{sl:Value}{L:List Sp}(ho:OS w base sl L)(hb:b<base)(hg:g<base):OS w' base sl L:=by
 refine⟨ho.1,?_⟩
 rcases ho.2 with h0|⟨q,cap,cur,h1,h2,h3,h4⟩
 ·exact Or.inl h0
 ·exact Or.inr ⟨q,cap,cur,h1,h2,(h.block q (aB h3) (by omega) (by omega)).trans h3,h4⟩
def iM(M:List Nat):Array Value:=(M.map fun(m:Nat)=>Value.int .u64 (m:Int)).toArray
def PSt(w:World)(b g n nam bar:Nat)(M:List Nat):Prop:=w.heap[b]?=some (.cells #[.int .u64 (nam:Nat),.int .u64 (bar:Nat),.slice (some ⟨g,0,none⟩) n n] 69 (0,0))/\w.heap[g]?=some (.cells (iM M) 64 (0,0))/\M.length=n
theorem PSt.grow{w w':World}{b g n nam bar:Nat}{M:List Nat}(h:PSt w b g n nam bar M)(hg:w.grownBy w' none):PSt w' b g n nam bar M :=
 ⟨(hg.block b (aB h.1) (by simp)).trans h.1,(hg.block g (aB h.2.1) (by simp)).trans h.2.1,h.2.2⟩
theorem PSt.nam{w:World}{b g n nam bar:Nat}{M:List Nat}(h:PSt w b g n nam bar M)(hbg:¬g=b)(x:Nat):PSt (w.setCell ⟨b,0,none⟩ (.int .u64 (x:Nat))) b g n x bar M:=by
 refine⟨?_,(heap_setCell_other w _ g _ (by simpa using hbg)).trans h.2.1,h.2.2⟩;rw[World.setCell,Array.getElem?_modify,if_pos rfl,h.1];rfl
theorem PSt.bar{w:World}{b g n nam bar:Nat}{M:List Nat}(h:PSt w b g n nam bar M)(hbg:¬g=b)(x:Nat):PSt (w.setCell ⟨b,1,none⟩ (.int .u64 (x:Nat))) b g n nam x M:=by
 refine⟨?_,(heap_setCell_other w _ g _ (by simpa using hbg)).trans h.2.1,h.2.2⟩;rw[World.setCell,Array.getElem?_modify,if_pos rfl,h.1];rfl
theorem PSt.met{w:World}{b g n nam bar:Nat}{M:List Nat}(h:PSt w b g n nam bar M)(hbg:¬g=b)(i x:Nat):PSt (w.setCell ⟨g,i,none⟩ (.int .u64 (x:Nat))) b g n nam bar (M.set i x):=by
 refine⟨(heap_setCell_other w _ b _ (by simpa using fun e=>hbg e.symm)).trans h.1,?_,by simpa using h.2.2⟩;rw[World.setCell,Array.getElem?_modify,if_pos rfl,h.2.1];simp only[Option.map_some];congr 2;unfold iM;rw[List.map_set];simp
theorem PSt.cells{w:World}{b g n nam bar:Nat}{M:List Nat}(h:PSt w b g n nam bar M):w.cell? ⟨b,0,none⟩=some (.int .u64 (nam:Nat))/\w.cell? ⟨b,1,none⟩=some (.int .u64 (bar:Nat))/\w.cell? ⟨b,2,none⟩=some (.slice (some ⟨g,0,none⟩) n n)/\(∀i,w.frozen? ⟨b,i,none⟩=false) :=
 ⟨by rw[ah h.1];rfl,by rw[ah h.1];rfl,by rw[ah h.1];rfl,fun i=>Lib.frozen_of_heap h.1 i⟩
theorem PSt.cell{w:World}{b g n nam bar:Nat}{M:List Nat}(h:PSt w b g n nam bar M)(i:Nat)(hi:i<M.length):w.cell? ⟨g,i,none⟩=some (.int .u64 (M[i]:Nat))/\w.frozen? ⟨g,i,none⟩=false:=by
 refine⟨?_,Lib.frozen_of_heap h.2.1 i⟩;rw[ah h.2.1];unfold iM;simp[hi]
end Go.Proofs.YteciokcdpadmpaaGreatDoor
