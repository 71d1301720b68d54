import Derived.Test.YtapodndfpecglaaGreatDoorK18
import Derived.Test.YtapodndfpecglaaGreatDoorK05
set_option linter.all false
set_option maxRecDepth 100000
set_option maxHeartbeats 0
open Go.Proofs.Tryz
namespace Go.Proofs.YtapodndfpecglaaGreatDoor
open Go.RowKit
structure It where
 k:Nat
 v:Vv
def jh(x:It):List Value:=[.int .i64 (x.k:Int),.int .i64 x.v.major,.int .i64 x.v.minor,.int .i64 x.v.patch,.string ⟨x.v.pre.toArray⟩,.string ⟨x.v.build.toArray⟩]
def dw(name:ByteArray):List Re->Nat->List It
 | [],_=>[]
 | x :: r,k=>if(decide (x.nm=name) && okV x.ve)=true then⟨k,aZ x.ve⟩ :: dw name r (k+1) else dw name r (k+1)
theorem zx(name:ByteArray):∀(L:List Re) (k:Nat),(dw name L k).length<=L.length
 | [],k=>Nat.le_refl _
 | x :: r,k=>by
  have:=zx name r (k+1);unfold dw;split<;>simp<;>omega
theorem aaS:(prog.info? 155).map (fun i=>(i.zero,i.size,i.bytes))=some (some (.agg #[.int .i64 0,.int .i64 0,.int .i64 0,.int .i64 0,.string ⟨#[]⟩,.string ⟨#[]⟩]),6,64):=by kernel_rfl
theorem Qm(s:It):∀u∈jh s,u.oneCell'=true:=by
 intro u hu;simp only[jh,List.mem_cons,List.not_mem_nil,or_false]at hu
 rcases hu with rfl|rfl|rfl|rfl|rfl|rfl<;>rfl
theorem aaT{w w':World}{base:Nat}{e:TypeId}{size:Nat}{v:Value}{n:Nat}{xs:List Value}(h:w.ownsRow base e size v n xs)(hg:w.grownBy w' none):w'.ownsRow base e size v n xs :=
 h.kept hg (by cases v.ownBlock<;>simp)
theorem hrow2(w:World)(o1 o2:Obj):((w.alloc o1).alloc o2).heap[w.heap.size+1]?=some o2:=by
 have:=heap_alloc_new (w.alloc o1) o2;simpa using this
def Qn(M:List It)(w:World)(e:Ending)(w':World):Prop:=∃v,e=.returned v/\w'.ownsRow w.heap.size 155 6 v M.length (M.flatMap jh)/\Below w.heap.size w w'
theorem aaU(a:Addr)(cap:Nat)(L:List Re)(name:ByteArray)(w:World)(hL:L.length<=1048576)(hcap:L.length<=cap)(hV:∀x∈L,x.ve.size<2 ^ 62)(h:∀i (hi:i<L.length),ReAt w (a.add (i*4)) L[i]) :
  Calls prog 84 #[.slice (some a) L.length cap,.string name] w (Qn (dw name L 0) w):=by
 have HA:=ae h;have CT:Hd (∀x∈L,∀w,Calls prog 53 #[.string x.ve] w fun e w'=>(∃k:Int,e=.returned (.tuple #[jr (aZ x.ve),.int .i64 (gG x.ve.data.toList).1,.int .i64 k]))/\w.grownBy w' none):=fun x hx w=>(parse_any x.ve w (hV x hx)).mono fun e w' ⟨h1,h2⟩=>⟨⟨_,h1⟩,h2⟩
 obtain⟨R,hR⟩:=zN (dw name L 0);have HR:Hd ([]++dw name (L.drop 0) 0=R):=hR;have wH:Hd (R.length<=1048576):=by rw[<-hR];exact Nat.le_trans (zx name L 0) hL
 rw[hR];clear h hV hR;have hinfo:=aaS;obtain⟨i0,hi0,hii⟩:=Option.map_eq_some_iff.1 hinfo;simp only[Prod.mk.injEq]at hii;obtain⟨hz0,hz1,hzb⟩:=hii;clear hinfo;go_enter func84,ntmps84;go_wp2;go_loopw [5,13] (fun vm vi wr=>∃(i:Nat) (M:List It),vi=.int .i64 i/\i<=L.length/\M++dw name (L.drop i) i=R/\wr.ownsRow w.heap.size 155 6 vm M.length (M.flatMap jh)/\Below w.heap.size w wr) (fun _ vi _=>L.length-(intOf vi).toNat)
 case atStart=>exact⟨0,[],rfl,Nat.zero_le _,HR.o,World.ownsRow_nil _ _ _ _,Below.refl _ _⟩
 case round =>
  obtain⟨i,M,rfl,hi,hf,hown,hb⟩:=hrel;have HO:=ae hown;have HB:=ae hb
  by_cases hlt:i<L.length
  ·obtain⟨x,hx⟩:=zN (L[i]);have qB:ReAt wr (a.add (i*4)) x:=by rw[<-hx];exact(HA.o i hlt).grow (ny hb)
   obtain⟨e0,e1,⟨sv,e2,hsv⟩,e3⟩:=qB;obtain⟨so,sc,rfl⟩:=rY hsv;obtain⟨sn,hsn⟩:=zN x.nd.length;rw[hsn]at e2;clear hsv hsn;have HF:Hd (M++(if(decide (x.nm=name) && okV x.ve)=true then⟨i,aZ x.ve⟩ :: dw name (L.drop (i+1)) (i+1) else dw name (L.drop (i+1)) (i+1))=R):=by
    show _=_;rw[List.drop_eq_getElem_cons hlt,hx]at hf;exact hf
   have CX:=ae (CT.o x (by rw[<-hx];exact List.getElem_mem _));unfold jr at CX;obtain⟨E,hE⟩:=zN ((gG x.ve.data.toList).1);obtain⟨y,hy⟩:=zN (aZ x.ve);obtain⟨y1,y2,y3,y4,y5⟩:=y;rw[hE,hy]at CX;simp only[]at CX;have HK:Hd (okV x.ve=decide (E=0)):=by show _=_;unfold okV;rw[hE]
   rw[hy]at HF;have hbs:=hb.size;clear hf hx hE hy hown hb
   by_cases hn:x.nm=name
   ·have q:=BK hn;have q2:(x.nm.toList != name.toList)=false:=by simp[bne,q]
    have HN:=ae hn;clear hn;go_wp2_with (go_at_call 53;refine(CX.o _).mono ?_);rintro e w1 ⟨⟨k,rfl⟩,hg⟩;have hga:=ah (au (ak wr none) _) hg;replace HO:=ae (aaT HO.o hga);replace HB:=ae (hbelow HB.o hbs hga);clear hg hga e0 e1 e2 e3
    cases hz:(E == 0) with
    | true =>
     have hE0:E=0:=by simpa using hz
     have HQ:Hd ((M++[⟨i,⟨y1,y2,y3,y4,y5⟩⟩])++dw name (L.drop (i+1)) (i+1)=R):=by
      have:=HF.o;rw[if_pos (by rw[HK.o,HN.o];simp[hE0])]at this;show _=_;rw[List.append_assoc];exact this
     have qP:Hd (M.length+1<=1048576):=by
      have h1:=congrArg List.length HQ.o;have h2:=wH.o;simp only[List.length_append,List.length_cons,List.length_nil]at h1;show _<=_;omega
     clear hE0;go_wp2_with (first|(at_builtin;refine wpList_append_own _ rfl _ _ 151 rfl w.heap.size 155 i0 (.agg #[.int .i64 0,.int .i64 0,.int .i64 0,.int .i64 0,.string ⟨#[]⟩,.string ⟨#[]⟩]) 6 64 underlying151 hi0 hz0 hz1 hzb rfl (by decide) _ _ _ rfl ((HO.o.alloc _).alloc _) _ 1 1 (jh ⟨i,⟨y1,y2,y3,y4,y5⟩⟩) rfl rfl (World.news_of_block (hrow2 _ _ _)) (Qm _) (by unfold maxLen;have:=qP.o;omega) (by have:=qP.o;omega) (by have:=HB.o.size;simp;omega) ?_;intro v' w3 hown3 hgrow _));have hb3:=((HB.o.alloc HB.o.size _).alloc (by have:=HB.o.size;simp;omega) _).grown hgrow (by have:=HB.o.size;simp;omega) (fun q hq=>(HO.o.lt q hq).1);refine⟨⟨i+1,M++[⟨i,⟨y1,y2,y3,y4,y5⟩⟩],by go_num,by omega,HQ.o,?_,hb3⟩,by simp[intOf];omega⟩;rw[List.length_append,List.flatMap_append];simpa using hown3
    | false =>
     have HQ:Hd (M++dw name (L.drop (i+1)) (i+1)=R):=by
      have h0:¬E=0:=by simpa using hz
      have:=HF.o;rw[if_neg (by rw[HK.o];simp[h0])]at this;exact this
     go_wp2;exact⟨⟨i+1,M,by go_num,by omega,HQ.o,HO.o.alloc _,HB.o.alloc HB.o.size _⟩,by simp[intOf];omega⟩
   ·have q:=uY hn;have q2:(x.nm.toList != name.toList)=true:=by simp[bne,q]
    have HQ:Hd (M++dw name (L.drop (i+1)) (i+1)=R):=by
     have:=HF.o;rw[if_neg (by simp[hn])]at this;exact this
    clear hn;go_wp2;exact⟨⟨i+1,M,by go_num,by omega,HQ.o,HO.o.alloc _,HB.o.alloc HB.o.size _⟩,by simp[intOf];omega⟩
  ·have hil:i=L.length:=by omega
   have HQ:Hd (M=R):=by
    show _=_;rw[hil,List.drop_length]at hf;simpa [dw] using hf
   clear hf hil hown hb;go_wp2;refine bodyPost_ret (results_tmp (t:=4) rfl _ _ _) rfl ⟨u5,rfl,by rw[<-HQ.o];exact HO.o,HB.o⟩
open Go.RowKit
def ItAt(w:World)(p:Addr)(x:It):Prop:=w.cell? p=some (.int .i64 (x.k:Int))/\w.cell? ⟨p.block,p.off+1,none⟩=some (.int .i64 x.v.major)/\w.cell? ⟨p.block,p.off+2,none⟩=some (.int .i64 x.v.minor)/\w.cell? ⟨p.block,p.off+3,none⟩=some (.int .i64 x.v.patch)/\w.cell? ⟨p.block,p.off+4,none⟩=some (.string ⟨x.v.pre.toArray⟩)/\w.cell? ⟨p.block,p.off+5,none⟩=some (.string ⟨x.v.build.toArray⟩)
theorem ItAt.grow{w w':World}{p:Addr}{x:It}(h:ItAt w p x)(hg:w.grownBy w' none):ItAt w' p x:=by
 obtain⟨h0,h1,h2,h3,h4,h5⟩:=h;exact⟨hg.cell h0 (by simp),hg.cell h1 (by simp),hg.cell h2 (by simp),hg.cell h3 (by simp),hg.cell h4 (by simp),hg.cell h5 (by simp)⟩
def Qo(w:World)(v:Value)(M:List It):Prop:=(v=.slice none 0 0/\M=[])\/∃a cap,v=.slice (some a) M.length cap/\M.length<=cap/\∀i (hi:i<M.length),ItAt w (a.add (i*6)) M[i]
theorem Jb(l:List It):∀(i:Nat) (hi:i<l.length) (k:Nat) (u:Value),(jh l[i])[k]?=some u->(l.flatMap jh)[i*6+k]?=some u:=by
 induction l with
 | nil=>intro i hi;simp at hi
 | cons t l ih =>
  intro i hi k u h;rw[List.flatMap_cons];have hl:(jh t).length=6:=rfl
  cases i with
  | zero =>
   simp only[List.getElem_cons_zero]at h;have hk:=(List.getElem?_eq_some_iff.1 h).1;rw[Nat.zero_mul,Nat.zero_add,List.getElem?_append_left hk];exact h
  | succ i =>
   simp only[List.getElem_cons_succ]at h;rw[List.getElem?_append_right (by rw[hl];omega),hl,show(i+1)*6+k-6=i*6+k by omega];exact ih i (by simpa using hi) k u h
theorem Jc{w:World}{base:Nat}{v:Value}{L:List It}(h:w.ownsRow base 155 6 v L.length (L.flatMap jh)):Qo w v L:=by
 rcases h.2 with⟨h1,h2⟩|⟨g,cap,cur,hv,hb,hc,h3,h4,h5,h6⟩
 ·exact Or.inl ⟨h1,List.length_eq_zero_iff.1 h2⟩
 ·refine Or.inr ⟨⟨g,0,none⟩,cap,hv,h3,fun i hi=>?_⟩;have h':=h;rw[hv]at h';have key:∀k u,0<k->(jh L[i])[k]?=some u->w.cell? ⟨((⟨g,0,none⟩:Addr).add (i*6)).block,((⟨g,0,none⟩:Addr).add (i*6)).off+k,none⟩=some u:=fun k u hk hu=>by
   have:=h'.cells (g:=g) rfl (i*6+k) u (Jb L i hi k u hu);rw[wL _ _ k hk]at this;exact this
  have k0:=h'.cells (g:=g) rfl (i*6+0) _ (Jb L i hi 0 _ rfl);exact⟨by simpa using k0,key 1 _ (by omega) rfl,key 2 _ (by omega) rfl,key 3 _ (by omega) rfl,key 4 _ (by omega) rfl,key 5 _ (by omega) rfl⟩
def wY(wv:V):List It->Int
 | []=>-1
 | x :: r=>if aB (cutV x.v) wv=0 then(x.k:Int) else wY wv r
theorem Qp(name v:ByteArray)(h:okV v=true):∀(L:List Re) (k:Nat),wY (cutV (aZ v)) (dw name L k)=gU name v L k
 | [],k=>rfl
 | x :: r,k=>by
  have ih:=Qp name v h r (k+1);unfold dw gU fG mF;rw[h]
  by_cases h1:x.nm=name
  ·by_cases h2:okV x.ve=true
   ·rw[if_pos (by simp[h1,h2])];unfold wY
    by_cases h3:aB (cutV (aZ x.ve)) (cutV (aZ v))=0
    ·rw[if_pos h3,if_pos (by simp[h1,h2,h3])]
    ·rw[if_neg h3,if_neg (by simp[h3])];exact ih
   ·rw[if_neg (by simp[h2]),if_neg (by simp[h2])];exact ih
  ·rw[if_neg (by simp[h1]),if_neg (by simp[h1])];exact ih
theorem Qq(name v:ByteArray)(h:okV v=false):∀(L:List Re) (k:Nat),gU name v L k=-1
 | [],k=>rfl
 | x :: r,k=>by
  unfold gU fG mF;rw[if_neg (by simp[h])];exact Qq name v h r (k+1)
theorem Jd(name:ByteArray):∀(L:List Re) (k:Nat),∀x∈dw name L k,x.v.pre.length<=100/\x.k<k+L.length
 | [],k,x,hx=>by simp[dw]at hx
 | y :: r,k,x,hx=>by
  have ih:=Jd name r (k+1);unfold dw at hx;split at hx
  ·rcases List.mem_cons.1 hx with rfl|hx
   ·exact⟨zl y.ve,by simp⟩
   ·have:=ih x hx;exact⟨this.1,by have:=this.2;simp only[List.length_cons];omega⟩
  ·have:=ih x hx;exact⟨this.1,by have:=this.2;simp only[List.length_cons];omega⟩
theorem Qr(sl:Value)(L:List Re)(name:ByteArray)(w:World)(h:ReS w sl L)(hL:L.length<=1048576)(hV:∀x∈L,x.ve.size<2 ^ 62) :
  Calls prog 84 #[sl,.string name] w (Qn (dw name L 0) w):=by
 rcases h with⟨rfl,rfl⟩|⟨a,cap,rfl,h2,h3⟩
 ·go_enter func84,ntmps84;go_wp2;go_loopw [5,13] (fun vm vi wr=>vi=.int .i64 0/\vm=.slice none 0 0/\Below w.heap.size w wr) (fun _ vi _=>0)
  case atStart=>exact⟨rfl,rfl,Below.refl _ _⟩
  case round =>
   obtain⟨rfl,rfl,hb⟩:=hrel;have HB:=ae hb;clear hb;go_wp2;refine bodyPost_ret (results_tmp (t:=4) rfl _ _ _) rfl ⟨_,rfl,World.ownsRow_nil _ _ _ _,HB.o⟩
 ·exact aaU a cap L name w hL h2 hV h3
open Go.RowKit
def sZ(x y:Int):Int:=if x=0 then y else x
theorem aaV(x y:Int)(b:Nat)(w:World)(h0:w.cell? ⟨b,0,none⟩=some (.int .i64 x))(h1:w.cell? ⟨b,1,none⟩=some (.int .i64 y)) :
  Calls prog 87 #[.slice (some ⟨b,0,none⟩) 2 2] w fun e w'=>e=.returned (.int .i64 (sZ x y))/\w'=w:=by
 obtain⟨R,hR⟩:∃R,R=sZ x y:=⟨_,rfl⟩;have HR:=ae hR;rw[<-hR];clear hR;go_enter func87,ntmps87;go_wp2
 go_loop [8] (fun i=>∃k:Nat,k<=2/\i=.int .i64 k/\(1<=k->x=0)/\(2<=k->y=0)) (fun i=>2-(intOf i).toNat)
 case atStart=>exact⟨0,by omega,rfl,by omega,by omega⟩
 case round =>
  obtain⟨k,hk,rfl,k1,k2⟩:=hrel
  rcases(show k=0\/k=1\/k=2 by omega) with rfl|rfl|rfl
  ·clear k1 k2 hk
   cases hz:(x == 0) with
   | true =>
    have hx:x=0:=by simpa using hz
    go_wp2
    go_round
    case rel=>exact⟨1,by omega,rfl,fun _=>hx,by omega⟩
    case measure=>simp[intOf]
   | false =>
    have HZ:Hd (R=x):=by show R=x;rw[HR.o];unfold sZ;rw[if_neg (by simpa using hz)]
    go_wp2;go_ret;exact⟨bD HZ.o.symm,rfl⟩
  ·have hx:=ae (k1 (by omega));clear k1 k2 hk;have HZ:Hd (R=y):=by show R=y;rw[HR.o];unfold sZ;rw[if_pos hx.o]
   cases hz:(y == 0) with
   | true =>
    have hy:y=0:=by simpa using hz
    go_wp2
    go_round
    case rel=>exact⟨2,by omega,rfl,fun _=>hx.o,fun _=>hy⟩
    case measure=>simp[intOf]
   | false =>
    go_wp2;go_ret;exact⟨bD HZ.o.symm,rfl⟩
  ·have HZ:Hd (R=0):=by show R=0;rw[HR.o];unfold sZ;rw[if_pos (k1 (by omega)),k2 (by omega)]
   clear k1 k2 hk;go_wp2;go_ret;exact⟨bD HZ.o.symm,rfl⟩
def iR(x y:It):Int:=sZ (aB (cutV y.v) (cutV x.v)) (Lib.compareInt (x.k:Int) (y.k:Int))
theorem aaW{p q:Nat}{x0 x1 x2 x3 y0 y1 y2 y3:Int}{x4 x5 y4 y5:ByteArray}{w w':World}(hg:w.grownBy w' none)(h:w.cell? ⟨p,0,none⟩=some (.int .i64 x0)/\w.cell? ⟨p,1,none⟩=some (.int .i64 x1)/\w.cell? ⟨p,2,none⟩=some (.int .i64 x2)/\w.cell? ⟨p,3,none⟩=some (.int .i64 x3)/\w.cell? ⟨p,4,none⟩=some (.string x4)/\w.cell? ⟨p,5,none⟩=some (.string x5)/\w.cell? ⟨q,0,none⟩=some (.int .i64 y0)/\w.cell? ⟨q,1,none⟩=some (.int .i64 y1)/\w.cell? ⟨q,2,none⟩=some (.int .i64 y2)/\w.cell? ⟨q,3,none⟩=some (.int .i64 y3)/\w.cell? ⟨q,4,none⟩=some (.string y4)/\w.cell? ⟨q,5,none⟩=some (.string y5)) :
  w'.cell? ⟨p,0,none⟩=some (.int .i64 x0)/\w'.cell? ⟨p,1,none⟩=some (.int .i64 x1)/\w'.cell? ⟨p,2,none⟩=some (.int .i64 x2)/\w'.cell? ⟨p,3,none⟩=some (.int .i64 x3)/\w'.cell? ⟨p,4,none⟩=some (.string x4)/\w'.cell? ⟨p,5,none⟩=some (.string x5)/\w'.cell? ⟨q,0,none⟩=some (.int .i64 y0)/\w'.cell? ⟨q,1,none⟩=some (.int .i64 y1)/\w'.cell? ⟨q,2,none⟩=some (.int .i64 y2)/\w'.cell? ⟨q,3,none⟩=some (.int .i64 y3)/\w'.cell? ⟨q,4,none⟩=some (.string y4)/\w'.cell? ⟨q,5,none⟩=some (.string y5):=by
 obtain⟨h0,h1,h2,h3,h4,h5,h6,h7,h8,h9,h10,h11⟩:=h;exact⟨hg.cell h0 (by simp),hg.cell h1 (by simp),hg.cell h2 (by simp),hg.cell h3 (by simp),hg.cell h4 (by simp),hg.cell h5 (by simp),hg.cell h6 (by simp),hg.cell h7 (by simp),hg.cell h8 (by simp),hg.cell h9 (by simp),hg.cell h10 (by simp),hg.cell h11 (by simp)⟩
theorem aaX(x y:It)(w:World)(hx:x.v.pre.length<=100)(hy:y.v.pre.length<=100) :
  Calls prog 86 #[.agg (jh x).toArray,.agg (jh y).toArray] w fun e w'=>e=.returned (.int .i64 (iR x y))/\Gr w w':=by
 obtain⟨k,⟨a1,a2,a3,a4,a5⟩⟩:=x;obtain⟨l,⟨b1,b2,b3,b4,b5⟩⟩:=y;simp only[]at hx hy;have CV:Hd (∀w,Calls prog 88 #[.agg #[.int .i64 b1,.int .i64 b2,.int .i64 b3,.string ⟨b4.toArray⟩,.string ⟨b5.toArray⟩],.agg #[.int .i64 a1,.int .i64 a2,.int .i64 a3,.string ⟨a4.toArray⟩,.string ⟨a5.toArray⟩]] w fun e w'=>e=.returned (.int .i64 (aB ⟨b1,b2,b3,b4⟩ ⟨a1,a2,a3,a4⟩))/\Gr w w'):=fun w=>by
  have:=G.compare_any b1 b2 b3 a1 a2 a3 ⟨b4.toArray⟩ ⟨b5.toArray⟩ ⟨a4.toArray⟩ ⟨a5.toArray⟩ w (by show b4.toArray.size < _;simp;omega) (by show a4.toArray.size < _;simp;omega);simpa using this
 have CI:Hd (∀w,Calls prog 89 #[.int .i64 (k:Int),.int .i64 (l:Int)] w fun e w'=>e=.returned (.int .i64 (Lib.compareInt (k:Int) (l:Int)))/\w'=w):=fun w=>vY _ _ w
 show Calls prog 86 #[.agg #[.int .i64 (k:Int),.int .i64 a1,.int .i64 a2,.int .i64 a3,.string ⟨a4.toArray⟩,.string ⟨a5.toArray⟩],.agg #[.int .i64 (l:Int),.int .i64 b1,.int .i64 b2,.int .i64 b3,.string ⟨b4.toArray⟩,.string ⟨b5.toArray⟩]] w fun e w'=>e=.returned (.int .i64 (sZ (aB ⟨b1,b2,b3,b4⟩ ⟨a1,a2,a3,a4⟩) (Lib.compareInt (k:Int) (l:Int))))/\Gr w w'
 obtain⟨r,hr⟩:=zN (aB (⟨b1,b2,b3,b4⟩:V) ⟨a1,a2,a3,a4⟩);obtain⟨c,hc⟩:=zN (Lib.compareInt (k:Int) (l:Int));rw[hr]at CV ⊢;rw[hc]at CI ⊢;have CO:=ae (aaV r c);obtain⟨o,ho⟩:=zN (sZ r c);rw[ho]at CO ⊢;obtain⟨A4,Qs⟩:∃s:ByteArray,s=⟨a4.toArray⟩:=⟨_,rfl⟩;obtain⟨A5,Qu⟩:∃s:ByteArray,s=⟨a5.toArray⟩:=⟨_,rfl⟩;obtain⟨B4,hB4⟩:∃s:ByteArray,s=⟨b4.toArray⟩:=⟨_,rfl⟩;obtain⟨B5,Qv⟩:∃s:ByteArray,s=⟨b5.toArray⟩:=⟨_,rfl⟩;rw[<-Qs,<-Qu,<-hB4,<-Qv]at CV ⊢;clear hr hc ho hx hy Qs Qu hB4 Qv;go_enter func86,ntmps86;go_wp2;obtain⟨W,hW⟩:=zN ((w.alloc (.cells #[.int .i64 (k:Int),.int .i64 a1,.int .i64 a2,.int .i64 a3,.string A4,.string A5] 155)).alloc (.cells #[.int .i64 (l:Int),.int .i64 b1,.int .i64 b2,.int .i64 b3,.string B4,.string B5] 155));rw[hW];have g1:W.heap[w.heap.size]?=some (.cells #[.int .i64 (k:Int),.int .i64 a1,.int .i64 a2,.int .i64 a3,.string A4,.string A5] 155 (0,0)):=by
  rw[<-hW,Lib.alloc_old _ _ _ (by simp)];exact heap_alloc_new w _
 have g2:W.heap[w.heap.size+1]?=some (.cells #[.int .i64 (l:Int),.int .i64 b1,.int .i64 b2,.int .i64 b3,.string B4,.string B5] 155 (0,0)):=by
  rw[<-hW];exact hrow2 w _ _
 have bM:Hd (Gr w W):=by
  show Gr w W;rw[<-hW];exact Ar (Ar (Aq w) _) _
 obtain⟨A,hA⟩:=zN (w.heap.size);rw[hA]at g1 g2;rw[hA];have c0:W.cell? ⟨A,0,none⟩=some (.int .i64 (k:Int)):=by rw[ag g1];rfl
 have c1:W.cell? ⟨A,1,none⟩=some (.int .i64 a1):=by rw[ag g1];rfl
 have c2:W.cell? ⟨A,2,none⟩=some (.int .i64 a2):=by rw[ag g1];rfl
 have c3:W.cell? ⟨A,3,none⟩=some (.int .i64 a3):=by rw[ag g1];rfl
 have c4:W.cell? ⟨A,4,none⟩=some (.string A4):=by rw[ag g1];rfl
 have c5:W.cell? ⟨A,5,none⟩=some (.string A5):=by rw[ag g1];rfl
 have d0:W.cell? ⟨A+1,0,none⟩=some (.int .i64 (l:Int)):=by rw[ag g2];rfl
 have d1:W.cell? ⟨A+1,1,none⟩=some (.int .i64 b1):=by rw[ag g2];rfl
 have d2:W.cell? ⟨A+1,2,none⟩=some (.int .i64 b2):=by rw[ag g2];rfl
 have d3:W.cell? ⟨A+1,3,none⟩=some (.int .i64 b3):=by rw[ag g2];rfl
 have d4:W.cell? ⟨A+1,4,none⟩=some (.string B4):=by rw[ag g2];rfl
 have d5:W.cell? ⟨A+1,5,none⟩=some (.string B5):=by rw[ag g2];rfl
 clear hW hA g1 g2
 go_region_held3 (fun w'=>w'.cell? ⟨A,0,none⟩=some (.int .i64 (k:Int))/\w'.cell? ⟨A,1,none⟩=some (.int .i64 a1)/\w'.cell? ⟨A,2,none⟩=some (.int .i64 a2)/\w'.cell? ⟨A,3,none⟩=some (.int .i64 a3)/\w'.cell? ⟨A,4,none⟩=some (.string A4)/\w'.cell? ⟨A,5,none⟩=some (.string A5)/\w'.cell? ⟨A+1,0,none⟩=some (.int .i64 (l:Int))/\w'.cell? ⟨A+1,1,none⟩=some (.int .i64 b1)/\w'.cell? ⟨A+1,2,none⟩=some (.int .i64 b2)/\w'.cell? ⟨A+1,3,none⟩=some (.int .i64 b3)/\w'.cell? ⟨A+1,4,none⟩=some (.string B4)/\w'.cell? ⟨A+1,5,none⟩=some (.string B5)) ((first|exact aaW (by assumption) (by assumption)|go_keep)) (first|(go_at_call 88;refine(CV.o _).mono ?_;rintro e w1 ⟨rfl,hg1,hd1⟩)|(go_at_call 89;refine(CI.o _).mono ?_;rintro e w' ⟨rfl,rfl⟩)|(go_at_call 87;refine(CO.o _ _ (by simp) (by simp)).mono ?_;rintro e w' ⟨rfl,rfl⟩))
 have hgr:Hd (Gr W w'):=⟨cZ hg1,Nat.le_trans (Nat.le_succ _) hd1⟩;clear hg1 hd1 c0 c1 c2 c3 c4 c5 d0 d1 d2 d3 d4 d5;go_wp2;go_ret;exact⟨rfl,Ar (uy bM.o hgr.o) _⟩
open Go.RowKit
theorem Je{w:World}{v:Value}{M:List It}(h:Qo w v M):∃o c,v=.slice o M.length c/\(∀i,i<M.length->∃a,o=some a/\M.length<=c):=by
 rcases h with⟨rfl,rfl⟩|⟨a,cap,rfl,h2,-⟩
 ·exact⟨_,_,rfl,fun i hi=>by simp at hi⟩
 ·exact⟨_,_,rfl,fun _ _=>⟨a,rfl,h2⟩⟩
theorem aaY{w:World}{N:Nat}{k:Nat}{y1 y2 y3:Int}{y4 y5:List UInt8}{t:TypeId}(h:w.heap[N]?=some (.cells #[.int .i64 (k:Int),.int .i64 y1,.int .i64 y2,.int .i64 y3,.string ⟨y4.toArray⟩,.string ⟨y5.toArray⟩] t (0,0))):ItAt w ⟨N,0,none⟩ ⟨k,⟨y1,y2,y3,y4,y5⟩⟩ :=
 ⟨by rw[ag h];rfl,by rw[ag h];rfl,by rw[ag h];rfl,by rw[ag h];rfl,by rw[ag h];rfl,by rw[ag h];rfl⟩
theorem Qw(sl:Value)(L:List Re)(name v:ByteArray)(w:World)(h:ReS w sl L)(hL:L.length<=1048576)(hV:∀x∈L,x.ve.size<2 ^ 62)(hv:v.size<2 ^ 62) :
  Calls prog 59 #[sl,.string name,.string v] w fun e w'=>e=.returned (.int .i64 (gU name v L 0))/\w.grownBy w' none:=by
 have HS:=ae h;have CP:Hd (∀w,Calls prog 53 #[.string v] w fun e w'=>(∃k:Int,e=.returned (.tuple #[jr (aZ v),.int .i64 (gG v.data.toList).1,.int .i64 k]))/\w.grownBy w' none):=fun w=>(parse_any v w hv).mono fun e w' ⟨h1,h2⟩=>⟨⟨_,h1⟩,h2⟩
 have CI:=ae (fun w (h:ReS w sl L)=>Qr sl L name w h hL hV);have p1:=zl v;have uI:=ae (fun(h:okV v=false)=>Qq name v h L 0);have qQ:=ae (fun(h:okV v=true)=>Qp name v h L 0);have zy:=ae (fun x (hx:x∈dw name L 0)=>(Jd name L 0 x hx).1);have qP:=ae (Nat.le_trans (zx name L 0) hL);obtain⟨o0,n0,c0,rfl⟩:∃o n c,sl=.slice o n c:=by
  rcases h with⟨rfl,-⟩|⟨a,cap,rfl,-⟩
  ·exact⟨_,_,_,rfl⟩
  ·exact⟨_,_,_,rfl⟩
 unfold jr at CP;obtain⟨E,hE⟩:=zN ((gG v.data.toList).1);obtain⟨y,hy⟩:=zN (aZ v);have hok:okV v=decide (E=0):=by unfold okV;rw[hE]
 rw[hE,hy]at CP;rw[hok]at uI qQ;rw[hy]at qQ p1;obtain⟨y1,y2,y3,y4,y5⟩:=y;simp only[]at CP p1;obtain⟨R,hR⟩:=zN (gU name v L 0);obtain⟨M,hM⟩:=zN (dw name L 0);rw[hR]at uI qQ ⊢;rw[hM]at qQ zy qP CI;have CC:Hd (∀(x:It) w,x.v.pre.length<=100->Calls prog 88 #[.agg #[.int .i64 x.v.major,.int .i64 x.v.minor,.int .i64 x.v.patch,.string ⟨x.v.pre.toArray⟩,.string ⟨x.v.build.toArray⟩],.agg #[.int .i64 y1,.int .i64 y2,.int .i64 y3,.string ⟨y4.toArray⟩,.string ⟨y5.toArray⟩]] w fun e w'=>e=.returned (.int .i64 (aB (cutV x.v) ⟨y1,y2,y3,y4⟩))/\w.grownBy w' none):=fun x w hx=>by
  refine(compare_any _ _ _ _ _ _ _ _ _ _ w (by show x.v.pre.toArray.size < _;simp;omega) (by show y4.toArray.size < _;simp;omega)).mono ?_;rintro e w' ⟨rfl,hg⟩;refine⟨?_,hg⟩;simp[cutV]
 clear h hE hy hok hR hM p1 hV hv;go_enter func59,ntmps59;go_wp2_with (go_at_call 53;refine(CP.o _).mono ?_);rintro e w1 ⟨⟨k,rfl⟩,hg⟩;have HG:=ae hg;clear hg
 by_cases hE:E=0
 ·subst hE;have Qx:=qQ.o (by simp);have HI:Hd (wY ⟨y1,y2,y3,y4⟩ (M.drop 0)=R):=Qx;clear Qx;go_wp2_with (go_at_call 84;refine(CI.o _ (HS.o.grow (au HG.o _))).mono ?_);rintro e w2 ⟨vs,rfl,ho,hb⟩;have hgi:(w1.alloc (.cells #[.int .i64 y1,.int .i64 y2,.int .i64 y3,.string ⟨y4.toArray⟩,.string ⟨y5.toArray⟩] 109)).grownBy w2 none:=ny hb;obtain⟨V0,hV0⟩:=zN w1.heap.size;have STv:Hd (St V0 y1 y2 y3 ⟨y4.toArray⟩ ⟨y5.toArray⟩ w2):=by
   show St V0 _ _ _ _ _ w2;rw[<-hV0];exact(vX (heap_alloc_new w1 _)).grow hgi
  have hits:=Jc ho;have HIT:=ae hits;obtain⟨ov,cv,rfl,hov⟩:=Je hits;replace HG:=ae (ah HG.o (ah (au (ak w1 none) _) hgi))
  try rw[hV0]
  clear ho hb hgi hV0 hits;go_wp2;go_loopw [24] (fun vi wr=>∃i:Nat,vi=.int .i64 i/\i<=M.length/\wY ⟨y1,y2,y3,y4⟩ (M.drop i)=R/\w2.grownBy wr none) (fun vi _=>M.length-(intOf vi).toNat)
  case atStart=>exact⟨0,rfl,Nat.zero_le _,HI.o,ak _ _⟩
  case round =>
   obtain⟨i,rfl,hi,hf,hg⟩:=hrel;replace STv:=ae (STv.o.grow hg);replace HG:=ae (ah HG.o hg);have HW2:=ae hg;have hml:=qP.o
   by_cases hlt:i<M.length
   ·obtain⟨a,rfl,hcv⟩:=hov i hlt;obtain⟨x,hx⟩:=zN (M[i]);have hat:ItAt wr (a.add (i*6)) x:=by
     rcases HIT.o with⟨e,-⟩|⟨a',cap',e,-,h3⟩
     ·cases e
     ·cases e
      rw[<-hx];exact(h3 i hlt).grow hg
    have HF:Hd ((if aB (cutV x.v) ⟨y1,y2,y3,y4⟩=0 then(x.k:Int) else wY ⟨y1,y2,y3,y4⟩ (M.drop (i+1)))=R):=by
     show _=_;rw[List.drop_eq_getElem_cons hlt,hx]at hf;exact hf
    have CX:=ae (fun w=>CC.o x w (zy.o x (by rw[<-hx];exact List.getElem_mem _)));obtain⟨c,hc⟩:=zN (aB (cutV x.v) ⟨y1,y2,y3,y4⟩);rw[hc]at CX HF;obtain⟨xk,⟨z1,z2,z3,z4,z5⟩⟩:=x;simp only[]at CX HF;obtain⟨e0,e1,e2,e3,e4,e5⟩:=hat;simp only[]at e0 e1 e2 e3 e4 e5;obtain⟨s1,s2,s3,s4,s5⟩:=STv.o;have aaZ:V0<wr.heap.size:=rZ s1;have gA:=au (ak wr none) (.cells #[.int .i64 (xk:Int),.int .i64 z1,.int .i64 z2,.int .i64 z3,.string ⟨z4.toArray⟩,.string ⟨z5.toArray⟩] 155);have t1:=gA.cell s1 (by simp);have t2:=gA.cell s2 (by simp);have t3:=gA.cell s3 (by simp);have t4:=gA.cell s4 (by simp);have t5:=gA.cell s5 (by simp);clear hf hg hx hc gA;go_wp2_with (go_at_call 88;refine(CX.o _).mono ?_);rintro e w3 ⟨rfl,hg⟩;have hit:=(aaY (heap_alloc_new wr _)).grow hg;have hk:=hit.1;simp only[]at hk;have hgr:=ah (au (ak wr none) _) hg
    have dJ:=ae (ah HG.o hgr);have HW3:=ae hgr;clear hg hgr hit e0 e1 e2 e3 e4 e5 s1 s2 s3 s4 s5 t1 t2 t3 t4 t5 aaZ
    cases hz:(c == 0) with
    | true =>
     have h0:c=0:=by simpa using hz
     have HQ:Hd ((xk:Int)=R):=by
      have:=HF.o;rw[if_pos h0]at this;exact this
     clear h0;go_wp2;go_ret;exact⟨bD HQ.o,dJ.o⟩
    | false =>
     have h0:¬c=0:=by simpa using hz
     have HQ:Hd (wY ⟨y1,y2,y3,y4⟩ (M.drop (i+1))=R):=by
      have:=HF.o;rw[if_neg h0]at this;exact this
     clear h0;go_wp2;exact⟨⟨i+1,by go_num,by omega,HQ.o,ah HW2.o HW3.o⟩,by simp[intOf];omega⟩
   ·have hil:i=M.length:=by omega
    have HQ:Hd (-1=R):=by
     show _=_;rw[hil,List.drop_length]at hf;exact hf
    clear hf hil hg;go_wp2;go_ret;exact⟨bD HQ.o,HG.o⟩
 ·have hE1:(E == 0)=false:=by simp[hE]
  have hE2:(E != 0)=true:=by simp[hE]
  have HQ:=ae ((uI.o (by simp[hE])).symm);clear hE;go_wp2;go_ret;exact⟨bD HQ.o,au HG.o _⟩
open Go.RowKit Go.Shelf Go.Sort
def aa0:Prop:=∀(ve:Value) (E:List It) (base:Nat) (w:World),w.ownsRow base 155 6 ve E.length (E.flatMap jh)->E.length<=8388608->(∀e∈E,e.v.pre.length<=100) →
 Calls prog 85 #[ve,.func (.func 86) #[] #[]] w fun e w'=>e=.returned (.tuple #[])/\∃E':List It,E'.Perm E/\E'.Pairwise (fun a b=>0<=iR b a)/\w'.ownsRow base 155 6 ve E'.length (E'.flatMap jh)/\w.grownBy w' ve.ownBlock
abbrev Ib:={e:It // e.v.pre.length<=100}
instance:Inhabited Ib:=⟨⟨⟨0,zeroV⟩,by show(0:Nat)<=_;omega⟩⟩
def encI(x:Ib):List Value:=jh x.1
def zA(x y:Ib):Int:=iR x.1 y.1
theorem aa1{a b:Int}:Lib.compareInt a b<0↔a<b:=by
 unfold Lib.compareInt
 repeat' split
 all_goals omega
theorem tu(x y:It):iR x y<0↔aB (cutV y.v) (cutV x.v)<0\/(aB (cutV y.v) (cutV x.v)=0/\x.k<y.k):=by
 unfold iR sZ;split
 ·rename_i h;rw[aa1];omega
 ·rename_i h;omega
theorem aa2:SWO (ltOf zA) where
 irrefl x:=by
  unfold ltOf zA;apply decide_eq_false;rw[tu,Ak];omega
 trans x y z h1 h2:=by
  unfold ltOf zA at *;have a1:=(tu _ _).1 (of_decide_eq_true h1);have a2:=(tu _ _).1 (of_decide_eq_true h2);refine decide_eq_true ((tu _ _).2 ?_)
  rcases a1 with a1|⟨a1,b1⟩
  ·rcases a2 with a2|⟨a2,b2⟩
   ·exact Or.inl (Ap a2 a1)
   ·exact Or.inl (Am (by omega) a1)
  ·rcases a2 with a2|⟨a2,b2⟩
   ·exact Or.inl (yt a2 (by omega))
   ·refine Or.inr ⟨?_,by omega⟩;have c1:=oK (show aB (cutV z.1.v) (cutV y.1.v)<=0 by omega) (show aB (cutV y.1.v) (cutV x.1.v)<=0 by omega);have c2:=oK (show aB (cutV x.1.v) (cutV y.1.v)<=0 by have:=eH (cutV x.1.v) (cutV y.1.v);omega) (show aB (cutV y.1.v) (cutV z.1.v)<=0 by have:=eH (cutV y.1.v) (cutV z.1.v);omega);have c3:=eH (cutV x.1.v) (cutV z.1.v);omega
 ntrans x y z h1 h2:=by
  unfold ltOf zA at *;have a1:=of_decide_eq_false h1;have a2:=of_decide_eq_false h2;rw[tu]at a1 a2;apply decide_eq_false;rw[tu];have d1:=eH (cutV x.1.v) (cutV y.1.v);have d2:=eH (cutV y.1.v) (cutV z.1.v);have d3:=eH (cutV x.1.v) (cutV z.1.v);have e1:=oK (show aB (cutV x.1.v) (cutV y.1.v)<=0 by omega) (show aB (cutV y.1.v) (cutV z.1.v)<=0 by omega)
  by_cases h0:aB (cutV x.1.v) (cutV z.1.v)=0
  ·have f1:aB (cutV x.1.v) (cutV y.1.v)=0:=by
    by_cases hh:aB (cutV x.1.v) (cutV y.1.v)<0
    ·have:=yt hh (show aB (cutV y.1.v) (cutV z.1.v)<=0 by omega);omega
    ·omega
   have f2:aB (cutV y.1.v) (cutV z.1.v)=0:=by
    by_cases hh:aB (cutV y.1.v) (cutV z.1.v)<0
    ·have:=Am (show aB (cutV x.1.v) (cutV y.1.v)<=0 by omega) hh;omega
    ·omega
   omega
  ·omega
theorem aa3{w w':World}(h:Gr w w'):∃q os,w'=grow (w.drewN q) os:=by
 refine⟨w'.drawn-w.drawn,w'.heap.extract w.heap.size w'.heap.size,?_⟩;obtain⟨hg,hd⟩:=h;have hh:w'.heap=w.heap++w'.heap.extract w.heap.size w'.heap.size:=by
  apply Array.ext_getElem?;intro k
  by_cases hk:k<w.heap.size
  ·rw[Array.getElem?_append_left hk];exact hg.block k hk (by simp)
  ·rw[Array.getElem?_append_right (by omega),Array.getElem?_extract]
   by_cases hk2:k<w'.heap.size
   ·rw[if_pos (by omega)];congr 1;omega
   ·rw[if_neg (by omega),Array.getElem?_eq_none (by omega)]
 have h1:=hg.os;have h2:=hg.tape;have h3:=hg.output
 cases w';cases w
 simp only[grow,World.drewN,World.mk.injEq]at *;exact⟨hh,h2,by omega,h1,h3⟩
theorem aa4(w:World)(blk off size:Nat):CmpLays prog 86 #[] encI 6 zA blk off size w:=by
 intro m os dk hdk x y;refine(aaX x.1 y.1 _ x.2 y.2).mono ?_;rintro e w' ⟨rfl,hg⟩;exact⟨rfl,aa3 hg⟩
theorem Qy(x:Ib):(encI x).length=6:=rfl
theorem aa5(x:Ib):∀v∈encI x,v.oneCell'=true:=Qm x.1
theorem Jf(d:Array Ib):(flatK encI 6 d).toList=(d.toList.map (·.1)).flatMap jh:=by
 apply List.ext_getElem?;intro j;have hl:((d.toList.map (·.1)).flatMap jh).length=d.size*6:=by
  have:∀L:List It,(L.flatMap jh).length=L.length*6:=by
   intro L
   induction L with
   | nil=>rfl
   | cons e L ih=>rw[List.flatMap_cons,List.length_append,ih,List.length_cons];show 6+_=_;omega
  rw[this];simp
 by_cases hj:j<d.size*6
 ·have hi:j / 6<d.size:=by omega
  have h1:(flatK encI 6 d).toList[j]?=some ((encI d[j / 6]!)[j % 6]!):=by
   rw[Array.getElem?_toList,Array.getElem?_eq_getElem (by simpa using hj)];have:=get_flatK encI 6 d j hj;rw[getElem!_pos _ j (by simpa using hj)]at this;rw[this]
  have h2:=Jb (d.toList.map (·.1)) (j / 6) (by simpa using hi) (j % 6) ((encI d[j / 6]!)[j % 6]!) (by
   rw[getElem!_pos d (j / 6) hi];have hk:j % 6<(encI d[j / 6]).length:=by rw[Qy];omega
   rw[getElem!_pos _ (j % 6) hk];rw[List.getElem_map,Array.getElem_toList];exact List.getElem?_eq_getElem hk)
  rw[show j / 6*6+j % 6=j by omega]at h2;rw[h1,h2]
 ·rw[List.getElem?_eq_none (by simp;omega),List.getElem?_eq_none (by rw[hl];omega)]
theorem egI:∀args w,(callFunc 86 args).run prog w=.ok (.enter 86 args) w:=enters_of func86 (by kernel_rfl) rfl
theorem aa6:aa0:=by
 intro ve E base w hown hlen hsmall;obtain⟨D,hD⟩:∃D:Array Ib,D.toList.map (·.1)=E:=⟨(E.attach.map fun e=>(⟨e.1,hsmall e.1 e.2⟩:Ib)).toArray,by simp⟩;have hDs:D.size=E.length:=by rw[<-hD];simp
 have hown':=hown
 rcases hown.2 with⟨rfl,h0⟩|⟨g,cap,cur,rfl,hb,hg,hn,hm,hs,ht⟩
 ·refine(AnyF.slices_SortFunc_none Tryz.laysSortT none 0 (.func (.func 86) #[] #[]) w).mono ?_;rintro e w' ⟨rfl,rfl⟩;have hE:=List.eq_nil_of_length_eq_zero h0;subst hE;exact⟨rfl,[],List.Perm.refl _,List.Pairwise.nil,hown',⟨rfl,rfl,rfl,Nat.le_refl _,fun _ _ _=>rfl⟩⟩
 ·have hH:HoldsK encI 6 w g 0 D:=by
   intro j hj;have hj':j<(E.flatMap jh).length:=by rw[hown.1,<-hDs];simpa using hj
   refine⟨?_,Lib.frozen_of_heap hg _⟩;have h1:(flatK encI 6 D).toList[j]?=(E.flatMap jh)[j]?:=by rw[Jf,hD]
   rw[Array.getElem?_toList,Array.getElem?_eq_getElem hj]at h1;rw[Nat.zero_add,ag hg];rw[getElem!_pos _ j hj];show cur[j]?=some (id _);rw[id,h1,<-ht,List.getElem?_take_of_lt (by rw[hown.1]at hj';exact hj')];simp
  rw[<-hDs];refine(AnyQ.slices_SortFunc Tryz.laysSortT 6 isAgg155 sizeOf155 encI Qy aa5 zA aa2 86 #[] g 0 cap D w egI (aa4 w g 0 D.size) hH (aA hg) (by omega)).mono ?_;rintro e w' ⟨rfl,d',m,os,hperm,hsort,hw'⟩;have hds:=hperm.1;have hgl:=(aA hg);have hheap:w'.heap=(w.heap.modify g (onCells (putCells id 0 (flatK encI 6 d'))))++os:=by rw[hw'];rfl
  have hg':w'.heap[g]?=some (.cells (putCells id 0 (flatK encI 6 d') cur) 155):=by
   rw[hheap,Array.getElem?_append_left (by simpa using hgl),Array.getElem?_modify,if_pos rfl,hg];rfl
  have GV:(flatK encI 6 d').size=D.size*6:=by simp[hds]
  have hcs:D.size*6<=cur.size:=by rw[hs,hDs];omega
  have hlen2:((d'.toList.map (·.1)).flatMap jh).length=D.size*6:=by rw[<-Jf,Array.length_toList,GV]
  refine⟨rfl,d'.toList.map (·.1),?_,?_,⟨?_,.inr ⟨g,cap,_,?_,hb,hg',?_,hm,?_,?_⟩⟩,?_⟩
  ·rw[<-hD];apply List.Perm.map;have:=hperm.2.2;rw[Array.extract_size]at this;rw[show d'.extract 0 D.size=d' by rw[<-hds,Array.extract_size]]at this;exact this
  ·rw[List.pairwise_iff_getElem];intro i j hi hj hij;simp only[List.length_map,Array.length_toList]at hi hj;have:=hsort i j (Nat.zero_le _) hij (by omega);rw[getElem!_pos d' j hj,getElem!_pos d' i hi]at this;have h3:=of_decide_eq_false this;simp only[List.getElem_map,Array.getElem_toList];exact Int.not_lt.1 h3
  ·rw[hlen2];simp[hds]
  ·simp[hds]
  ·simp[hds];omega
  ·simp[putCells,hs]
  ·rw[show(d'.toList.map (·.1)).length=D.size by simp[hds],<-Jf];apply List.ext_getElem?;intro j
   by_cases hj:j<D.size*6
   ·rw[List.getElem?_take_of_lt hj,Array.getElem?_toList,Array.getElem?_toList];rw[putCells,Array.getElem?_mapIdx,Array.getElem?_eq_getElem (show j<cur.size by omega)];rw[Option.map_some,if_pos ⟨Nat.zero_le _,by omega⟩,Nat.sub_zero,id,getElem!_pos _ j (by omega)];exact(Array.getElem?_eq_getElem _).symm
   ·rw[List.getElem?_eq_none (by simp;omega),List.getElem?_eq_none (by rw[Array.length_toList];omega)]
  ·refine⟨by rw[hw'];rfl,by rw[hw'];rfl,by rw[hw'];rfl,?_,?_⟩
   ·rw[hheap];simp
   ·intro k hk hne;have hkg:g≠k:=by
     intro h;subst h;exact hne rfl
    rw[hheap,Array.getElem?_append_left (by simpa using hk),Array.getElem?_modify,if_neg hkg]
open Go.RowKit
theorem aa7:(prog.info? 3).map (fun i=>(i.zero,i.size,i.bytes))=some (some (.int .i64 0),1,8):=by kernel_rfl
theorem aa8(n:Nat):madeCells #[Value.int .i64 0] n=((List.range n).map fun _=>Value.int .i64 0).toArray:=by
 apply Array.ext';simp[madeCells];intro a ha;rw[Nat.mod_one];rfl
def NxAt(w:World)(B:Nat)(N:List Nat)(i:Nat):Prop:=w.heap[B]?=some (.cells (((N.take i).map fun(k:Nat)=>Value.int .i64 (k:Int))++List.replicate (N.length-i) (Value.int .i64 0)).toArray 3 (0,0))
theorem NxAt.cell{w:World}{B:Nat}{N:List Nat}{i:Nat}(h:NxAt w B N i)(hi:i<N.length):w.cell? ⟨B,i,none⟩=some (.int .i64 0):=by
 rw[ag h];have h1:((N.take i).map fun(k:Nat)=>Value.int .i64 (k:Int)).length=i:=by rw[List.length_map,List.length_take];omega
 simp only[List.getElem?_toArray];rw[List.getElem?_append_right (by omega),h1,Nat.sub_self,List.getElem?_replicate,if_pos (by omega)]
theorem NxAt.f{w:World}{B:Nat}{N:List Nat}{i:Nat}(h:NxAt w B N i)(j:Nat):w.frozen? ⟨B,j,none⟩=false:=Lib.frozen_of_heap h j
theorem NxAt.grow{w w':World}{B:Nat}{N:List Nat}{i:Nat}(h:NxAt w B N i)(hg:w.grownBy w' none):NxAt w' B N i:=by
 unfold NxAt at h ⊢;rw[hg.block B ((aA h)) (by simp)];exact h
theorem NxAt.set{w:World}{B:Nat}{N:List Nat}{i:Nat}(h:NxAt w B N i)(hi:i<N.length){k:Nat}(hk:N[i]=k):NxAt (w.setCell ⟨B,i,none⟩ (.int .i64 (k:Int))) B N (i+1):=by
 unfold NxAt at h ⊢;simp only[World.setCell,Array.getElem?_modify,h,if_true,Option.map_some];congr 2;apply Array.ext';simp only[Option.isSome_none,Bool.false_eq_true,if_false];rw[Array.toList_setIfInBounds];have h1:((N.take i).map fun(k:Nat)=>Value.int .i64 (k:Int)).length=i:=by rw[List.length_map,List.length_take];omega
 have h2:N.length-i=(N.length-(i+1))+1:=by omega
 simp only[];rw[List.set_append_right _ _ (by omega),h1,Nat.sub_self,h2,List.replicate_succ,List.set_cons_zero,List.take_succ_eq_append_getElem hi,List.map_append,List.append_assoc,hk];rfl
theorem Qz{w wa wb:World}{row:Option Nat}(h:w.grownBy wa none)(hg:wa.grownBy wb row)(hr:∀q,row=some q->w.heap.size<=q):w.grownBy wb none :=
 ⟨hg.os.trans h.os,hg.tape.trans h.tape,hg.output.trans h.output,Nat.le_trans h.size hg.size,fun k hk hn=>(hg.block k (Nat.lt_of_lt_of_le hk h.size) (fun e=>by have:=hr k e.symm;omega)).trans (h.block k hk hn)⟩
def aa9(M:List It)(w:World)(e:Ending)(w':World):Prop:=∃(B:Nat) (E:List It),e=.returned (.slice (some ⟨B,0,none⟩) E.length E.length)/\w.heap.size<=B/\NxAt w' B (E.map (·.k)) E.length/\w.grownBy w' none/\E.Perm M/\E.Pairwise (fun a b=>0<=iR b a)
theorem aba(sl:Value)(L:List Re)(name:ByteArray)(w:World)(h:ReS w sl L)(hL:L.length<=1048576)(hV:∀x∈L,x.ve.size<2 ^ 62) :
  Calls prog 55 #[sl,.string name] w (aa9 (dw name L 0) w):=by
 have CI:=ae (Qr sl L name w h hL hV);have qP:=ae (Nat.le_trans (zx name L 0) hL);have zy:=ae (fun x (hx:x∈dw name L 0)=>(Jd name L 0 x hx).1);obtain⟨o0,n0,c0,rfl⟩:∃o n c,sl=.slice o n c:=by
  rcases h with⟨rfl,-⟩|⟨a,cap,rfl,-⟩
  ·exact⟨_,_,_,rfl⟩
  ·exact⟨_,_,_,rfl⟩
 obtain⟨M,hM⟩:=zN (dw name L 0);rw[hM]at CI qP zy ⊢;clear h hM hV;go_enter func55,ntmps55;go_wp2_with (go_at_call 84;refine CI.o.mono ?_);rintro e w1 ⟨vs,rfl,ho,hb⟩;have CS:=ae (aa6 vs M w.heap.size w1 ho (by have:=qP.o;omega) zy.o);have HO:=ae ho;obtain⟨ov,cv,rfl,-⟩:=Je (Jc ho);have HG:=ae (ny hb);clear ho hb;go_wp2_with (first|(go_at_call 85;refine CS.o.mono ?_));rintro e w2 ⟨rfl,E,hp,hso,hrow,hg⟩;have Jg:=hp.length_eq;have HE:Hd (E.Perm M/\E.Pairwise (fun a b=>0<=iR b a)):=⟨hp,hso⟩;replace HG:=ae (Qz HG.o hg (fun q hq=>(HO.o.lt q hq).1));have Jh:Hd (E.length<=1048576):=by rw[Jg];exact qP.o
 have hits:=Jc hrow;rw[<-Jg]at hits ⊢;have HIT:=ae hits;have hov:∀i,i<E.length->∃a,ov=some a/\E.length<=cv:=by
  obtain⟨ov',cv',abb,hov⟩:=Je hits
  cases abb
  exact hov
 clear hp hso hrow hg Jg hits HO CS CI qP zy;obtain⟨N,hN⟩:=zN (E.map (·.k));have HN:=ae hN;have hNl:N.length=E.length:=by rw[<-hN];simp
 have ou:=ae hNl;have hmk:=run_make_row' (P:=prog) 25 3 (.int .i64 0) 8 underlying25 aa7 rfl .i64 .i64 E.length (by have:=Jh.o;omega) (by have:=Jh.o;omega);clear hN hNl;go_wp2;obtain⟨B,hB⟩:=zN (w2.heap.size);obtain⟨W1,hW1⟩:=zN (w2.alloc (.cells (madeCells #[.int .i64 0] E.length) 3));have HX0:Hd (NxAt W1 B N 0):=by
  show W1.heap[B]?=_;rw[<-hW1,<-hB,heap_alloc_new w2,aa8];congr 2;apply Array.ext';have:=ou.o;simp[List.map_const',this]
 have bM:Hd (w2.grownBy W1 none):=by show w2.grownBy W1 none;rw[<-hW1];exact au (ak w2 none) _
 have HB:Hd (w2.heap.size<=B):=by show _<=_;omega
 have Ji:=ae (Nat.le_trans HG.o.size HB.o)
 try rw[hW1]
 try rw[hB]
 clear hW1 hB hmk;go_loopw [19] (fun vi wk=>∃i:Nat,vi=.int .i64 i/\i<=E.length/\NxAt wk B N i/\w2.grownBy wk none) (fun vi _=>E.length-(intOf vi).toNat)
 case atStart=>exact⟨0,rfl,Nat.zero_le _,HX0.o,bM.o⟩
 case round =>
  obtain⟨i,rfl,hi,htx,hgk⟩:=hrel;have HX:=ae htx;have jG:=ae hgk;clear htx hgk;have hml:=Jh.o
  by_cases hlt:i<E.length
  ·obtain⟨a,rfl,hcv⟩:=hov i hlt;obtain⟨x,hx⟩:=zN (E[i]);have hat:ItAt wr (a.add (i*6)) x:=by
    rcases HIT.o with⟨e,-⟩|⟨a',cap',e,-,h3⟩
    ·cases e
    ·cases e
     rw[<-hx];exact(h3 i hlt).grow jG.o
   have HS:Hd (∀h:i<N.length,N[i]=x.k):=fun h=>by
    have e:=HN.o;subst e;rw[List.getElem_map,hx]
   obtain⟨xk,⟨z1,z2,z3,z4,z5⟩⟩:=x;obtain⟨e0,e1,e2,e3,e4,e5⟩:=hat;simp only[]at e0 e1 e2 e3 e4 e5;have Jj:i<N.length:=by have:=ou.o;omega
   have dA:=ae Jj;have gA:=au (ak wr none) (.cells #[.int .i64 (xk:Int),.int .i64 z1,.int .i64 z2,.int .i64 z3,.string ⟨z4.toArray⟩,.string ⟨z5.toArray⟩] 155);have hc:=(HX.o.grow gA).cell Jj;have hf:=(HX.o.grow gA).f i;clear hx gA Jj;go_wp2;exact⟨⟨i+1,by go_num,by omega,(HX.o.grow (au (ak wr none) _)).set dA.o (HS.o dA.o),Qz (ah jG.o (au (ak wr none) _)) (bF (ak _ (some B)) _ _) (fun q hq=>by injection hq with hq;have:=HB.o;omega)⟩,by simp[intOf];omega⟩
  ·have hil:i=E.length:=by omega
   have HXF:Hd (NxAt wr B (E.map (·.k)) E.length):=by
    show NxAt _ _ _ _;rw[HN.o,<-hil];exact HX.o
   clear hil hi;go_wp2;refine bodyPost_ret (results_tmp (t:=4) rfl _ _ _) rfl ⟨B,E,rfl,Ji.o,HXF.o,ah HG.o jG.o,HE.o.1,HE.o.2⟩
open Go.RowKit
theorem abd{x y z:It}(h1:0<=iR x y)(h2:0<=iR y z):0<=iR x z:=by
 have a1:¬iR x y<0:=by omega
 have a2:¬iR y z<0:=by omega
 have goal:¬iR x z<0:=by
  rw[tu]at a1 a2 ⊢;have d1:=eH (cutV x.v) (cutV y.v);have d2:=eH (cutV y.v) (cutV z.v);have d3:=eH (cutV x.v) (cutV z.v);have e1:=oK (show aB (cutV x.v) (cutV y.v)<=0 by omega) (show aB (cutV y.v) (cutV z.v)<=0 by omega)
  by_cases h0:aB (cutV x.v) (cutV z.v)=0
  ·have f1:aB (cutV x.v) (cutV y.v)=0:=by
    by_cases hh:aB (cutV x.v) (cutV y.v)<0
    ·have:=yt hh (show aB (cutV y.v) (cutV z.v)<=0 by omega);omega
    ·omega
   have f2:aB (cutV y.v) (cutV z.v)=0:=by
    by_cases hh:aB (cutV y.v) (cutV z.v)<0
    ·have:=Am (show aB (cutV x.v) (cutV y.v)<=0 by omega) hh;omega
    ·omega
   omega
  ·omega
 omega
theorem QA{α:Type}(r:α->α->Prop):∀(A B:List α),A.Perm B->A.Pairwise r->B.Pairwise r->(∀a∈A,∀b∈A,r a b->r b a->a=b)->A=B
 | [],B,hp,_,_,_=>(List.Perm.nil_eq hp)
 | a :: A,[],hp,_,_,_=>by have:=hp.length_eq;simp at this
 | a :: A,b :: B,hp,hA,hB,hu=>by
  have hab:a=b:=by
   have h1:a∈b :: B:=hp.subset (by simp);have h2:b∈a :: A:=hp.symm.subset (by simp)
   rcases List.mem_cons.1 h1 with e|h1
   ·exact e
   ·rcases List.mem_cons.1 h2 with e|h2
    ·exact e.symm
    ·exact hu a (by simp) b (by simp[h2]) ((List.pairwise_cons.1 hA).1 b h2) ((List.pairwise_cons.1 hB).1 a h1)
  subst hab;have hp':A.Perm B:=(List.perm_cons a).1 hp;rw[QA r A B hp' (List.pairwise_cons.1 hA).2 (List.pairwise_cons.1 hB).2 (fun x hx y hy=>hu x (by simp[hx]) y (by simp[hy]))]
theorem EK(name:ByteArray):∀(L:List Re) (k:Nat),∀x∈dw name L k,k<=x.k
 | [],k,x,hx=>by simp[dw]at hx
 | y :: r,k,x,hx=>by
  unfold dw at hx;split at hx
  ·rcases List.mem_cons.1 hx with rfl|hx
   ·exact Nat.le_refl _
   ·have:=EK name r (k+1) x hx;omega
  ·have:=EK name r (k+1) x hx;omega
theorem Jk(name:ByteArray):∀(L:List Re) (k:Nat),∀x∈dw name L k,∀y∈dw name L k,x.k=y.k->x=y
 | [],k,x,hx,y,hy,e=>by simp[dw]at hx
 | z :: r,k,x,hx,y,hy,e=>by
  unfold dw at hx hy;split at hx
  ·rename_i h;rw[if_pos h]at hy
   rcases List.mem_cons.1 hx with rfl|hx
   ·rcases List.mem_cons.1 hy with rfl|hy
    ·rfl
    ·have:=EK name r (k+1) y hy;simp only[]at e;omega
   ·rcases List.mem_cons.1 hy with rfl|hy
    ·have:=EK name r (k+1) x hx;simp only[]at e;omega
    ·exact Jk name r (k+1) x hx y hy e
  ·rename_i h;rw[if_neg h]at hy;exact Jk name r (k+1) x hx y hy e
theorem abe(name:ByteArray)(L:List Re)(E D:List It)(h1:E.Perm (dw name L 0))(h2:D.Perm (dw name L 0))(s1:E.Pairwise (fun a b=>0<=iR b a))(s2:D.Pairwise (fun a b=>0<=iR b a)):E=D:=by
 refine QA _ E D (h1.trans h2.symm) s1 s2 (fun a ha b hb r1 r2=>?_);have c1:¬iR b a<0:=by omega
 have c2:¬iR a b<0:=by omega
 rw[tu]at c1 c2;have d:=eH (cutV a.v) (cutV b.v);exact Jk name L 0 a (h1.subset ha) b (h1.subset hb) (by omega)
end Go.Proofs.YtapodndfpecglaaGreatDoor
