import Derived.Test.YtiinliaoojfjaaaGreatDoorF36
import Derived.Test.YtiinliaoojfjaaaGreatDoorF16
set_option linter.all false
set_option maxRecDepth 100000
set_option maxHeartbeats 0
open Go.Proofs.Tryz
namespace Go.Proofs.YtiinliaoojfjaaaGreatDoor
open Go.RowKit
def agx(R:Int × Nat × List (List Te))(w:World)(e:Ending)(w':World):Prop :=
 ∃(o:Option Addr) (n c:Nat),e=.returned (.tuple #[.slice o n c,.int .i64 R.1,.int .i64 (R.2.1:Int)])/\w.grownBy w' none/\(¬R.1=0->Value.slice o n c=.slice none 0 0) ∧
  (R.1=0->∃T,OS w' w.heap.size (.slice o n c) (outs T)/\LOk (outs T) 70000/\NT T 2/\Has (outs T) (jr R.2.2))
theorem agy(l:List UInt8)(h:¬200<l.length):((iP l (l.length+1) 0 []).1=0->fJ l=(0,0,(iP l (l.length+1) 0 []).2.2))/\(¬(iP l (l.length+1) 0 []).1=0->fJ l=((iP l (l.length+1) 0 []).1,(iP l (l.length+1) 0 []).2.1,[])):=by
 obtain⟨h1,h2,h3⟩:=UZ l (l.length+1) 0 [] (Nat.zero_le _);unfold fJ;rw[if_neg h];constructor
 ·intro h0;rw[if_pos (h1.symm.trans h0),h3 h0]
 ·intro h0;rw[if_neg (fun e=>h0 (h1.trans e)),h1,h2]
theorem WY(s:ByteArray)(w:World)(hs:s.size<2 ^ 62) :
  Calls prog 115 #[.string s] w (agx (fJ s.data.toList) w):=by
 by_cases h200:200<s.size
 ·have hR:fJ s.data.toList=(1,0,[]):=by unfold fJ;rw[if_pos (by simpa using h200)]
  rw[hR];clear hR;go_enter func115,ntmps115;go_wp2;exact bodyPost_ret (results_tmp3 (t:=2) (u:=3) (v:=4) rfl _ _ _) rfl ⟨_,_,_,rfl,ai _ _,fun _=>rfl,fun h=>absurd h (by simp)⟩
 ·have hR:=agy s.data.toList (by simpa using h200);have CS:=ae (fun b w (h:RS b s 0 w)=>aga b s w h (by omega));have CN:=ae (fun(sl:Value) (L:List Sp) (w:World) (h1:SpS w sl L) (h2:LOk L 70000)=>ae6 sl L 70000 w h1 h2 (by omega));obtain⟨E,J,S,hP⟩:∃E J S,iP s.data.toList (s.data.toList.length+1) 0 []=(E,J,S):=⟨_,_,_,rfl⟩;rw[hP]at CS hR;have HR:Hd ((E=0->fJ s.data.toList=(0,0,S))/\(¬E=0->fJ s.data.toList=(E,J,[]))):=hR;obtain⟨R,hRR⟩:=zN (fJ s.data.toList);rw[hRR]at HR ⊢;clear hR hP hRR hs;go_enter func115,ntmps115;go_wp2_with (go_at_call 128;refine(CS.o _ _ ⟨_,heap_alloc_new w _⟩).mono ?_);rintro e w1 ⟨o,n,c,rfl,hr,hg,hok⟩;obtain⟨A,hA⟩:=zN (w.heap.size);have HG:=ae (Rz hg);have hsz:w.heap.size<=(w.alloc (.cells #[.string s,.int .i64 0] 194)).heap.size:=by simp
  have gJ:Hd (E=0->∃L,OS w1 w.heap.size (.slice o n c) L/\LOk L 70000/\Has L (jr S)):=fun h=>by
   obtain⟨L,h1,h2,h3⟩:=hok h;exact⟨L,h1.base hsz,h2,h3⟩
  rw[hA]at hr;have HR1:Hd (RS A s J w1):=hr;have HA:=ae hA
  try rw[hA]
  clear hA hr hg hok hsz
  cases hz:(E == 0) with
  | false =>
   have hE0:¬E=0:=by simpa using hz
   have jI:=ae hE0;have e1:=HR1.o.c1;clear hE0;go_wp2;go_quiet (fail);go_wp2;refine bodyPost_ret (results_tmp3 (t:=2) (u:=3) (v:=4) rfl _ _ _) rfl ?_;rw[HR.o.2 jI.o];exact⟨_,_,_,rfl,aH HG.o _,fun _=>rfl,fun h=>absurd h jI.o⟩
  | true =>
   have hE0:E=0:=by simpa using hz
   subst hE0;obtain⟨L,ho,hl,hh⟩:=gJ.o rfl;have CNL:=ae (CN.o _ L w1 ho.sps hl);have HH:=ae hh;have HRR:=ae (HR.o.1 rfl);clear ho hl hh hz gJ HR;go_wp2_with (go_at_call 129;refine CNL.o.mono ?_);rintro e w2 ⟨hg,o',n',c',T,rfl,hos,hlk,hnt,hh⟩;have HF:Hd (w.grownBy w2 none/\OS w2 w.heap.size (.slice o' n' c') (outs T)/\LOk (outs T) 70000/\NT T 2/\Has (outs T) (jr S)) :=
    ⟨ag HG.o hg,hos.base HG.o.size,hlk,hnt,fun v hv=>by rw[hh];exact HH.o v hv⟩
   clear hg hos hlk hnt hh;go_wp2;refine bodyPost_ret (results_tmp3 (t:=2) (u:=3) (v:=4) rfl _ _ _) rfl ?_;rw[HRR.o];exact⟨_,_,_,rfl,HF.o.1,fun h=>absurd rfl h,fun _=>⟨T,HF.o.2.1,HF.o.2.2.1,HF.o.2.2.2.1,HF.o.2.2.2.2⟩⟩
open Go.RowKit Go.Maps
def dE(r v:ByteArray):Bool:=jr (fJ r.data.toList).2.2 (cutV (aK v))
def dY(L:List Re)(k:Nat):ByteArray:=match L[k]? with|some x=>x.ve|none=>⟨#[]⟩
theorem wM(L:List Re)(k:Nat)(h:k<L.length):dY L k=L[k].ve:=by simp[dY,List.getElem?_eq_getElem h]
def kZ(N:List Nd)(L:List Re)(j q:Nat):Bool:=decide (q<L.length) && (match N[j]? with|some y=>decide (y.n=aF L q) && dE y.r (dY L q)|none=>false)
theorem zK(N:List Nd)(L:List Re)(j q:Nat)(hj:j<N.length)(hq:q<L.length):kZ N L j q=(decide (N[j].n=aF L q) && dE N[j].r (dY L q)):=by simp[kZ,List.getElem?_eq_getElem hj,hq]
theorem WZ{N:List Nd}{L:List Re}{j q:Nat}(h:kZ N L j q=true):q<L.length:=by
 unfold kZ at h;rw[Bool.and_eq_true]at h;exact of_decide_eq_true h.1
def sW(N:List Nd)(L:List Re)(q:Nat):Bool:=decide (q<L.length) && N.any fun y=>decide (y.n=aF L q)
def zL(N:List Nd)(L:List Re)(i q:Nat):Bool:=match N[i]? with|some y=>decide (y.n=aF L q)|none=>false
theorem I9(N:List Nd)(L:List Re)(i q:Nat)(hi:i<N.length):zL N L i q=decide (N[i].n=aF L q):=by simp[zL,List.getElem?_eq_getElem hi]
def sZ(N:List Nd)(L:List Re)(i k q:Nat):Bool:=decide (q<L.length) && ((N.take i).any (fun y=>decide (y.n=aF L q)) || (decide (q<k) && zL N L i q))
def tu(N:List Nd)(L:List Re)(i k j q:Nat):Bool:=(decide (j<i) || (decide (j=i) && decide (q<k))) && kZ N L j q
theorem agz(N:List Nd)(L:List Re)(q:Nat):sZ N L 0 0 q=false:=by simp[sZ]
theorem agA(N:List Nd)(L:List Re)(j q:Nat):tu N L 0 0 j q=false:=by simp[tu]
theorem Xa(q k:Nat):decide (q<k+1)=(decide (q<k) || decide (k=q)):=by
 rw[Bool.eq_iff_iff];simp;omega
theorem Oj(N:List Nd)(L:List Re)(i k q:Nat)(hk:k<L.length):sZ N L i (k+1) q=(sZ N L i k q || (decide (k=q) && zL N L i k)):=by
 unfold sZ;rw[Xa]
 by_cases h:k=q
 ·subst h;simp[hk]
 ·simp[h]
theorem Ol(N:List Nd)(L:List Re)(i k j q:Nat):tu N L i (k+1) j q=(tu N L i k j q || (decide (j=i) && (decide (k=q) && kZ N L i k))):=by
 unfold tu;rw[Xa]
 by_cases h:k=q
 ·subst h
  by_cases hj:j=i
  ·subst hj;simp
  ·simp[hj]
 ·simp[h]
theorem agB(N:List Nd)(L:List Re)(i q:Nat)(hi:i<N.length):sZ N L i L.length q=sZ N L (i+1) 0 q:=by
 unfold sZ;rw[List.take_succ_eq_append_getElem hi,List.any_append,I9 N L i q hi]
 by_cases h:q<L.length
 ·simp[h]
 ·simp[h]
theorem agC(N:List Nd)(L:List Re)(i j q:Nat):tu N L i L.length j q=tu N L (i+1) 0 j q:=by
 unfold tu
 cases hm:kZ N L j q with
 | false=>simp
 | true =>
  have:=WZ hm;simp[this];rw[Bool.eq_iff_iff];simp;omega
theorem agD(N:List Nd)(L:List Re)(q:Nat):sZ N L N.length 0 q=sW N L q:=by
 unfold sZ sW;rw[List.take_length];simp
theorem agE(N:List Nd)(L:List Re)(j q:Nat)(hj:j<N.length):tu N L N.length 0 j q=kZ N L j q:=by
 unfold tu;simp[hj]
theorem agF{s:ByteArray}(h:okV s=true):vV (cutV (aK s)):=by
 unfold okV at h;have h0:=of_decide_eq_true h;have h1:kP (ig s.data.toList).2.2=true:=by
  unfold ig at h0 ⊢;split at h0
  ·exact absurd h0 (by decide)
  ·rename_i hn;rw[if_neg hn];exact(aac _ h0).2
 unfold kP at h1;simp only[Bool.and_eq_true,qJ]at h1;exact⟨h1.1.1,h1.2.1.1,h1.2.2.1.1,h1.2.2.2.1⟩
def VrS(w:World)(a:Addr)(L:List Re):Prop:=∀j (hj:j<L.length),w.cell? (a.add (j*5))=some (.int .i64 (aK L[j].ve).major)/\w.cell? ⟨(a.add (j*5)).block,(a.add (j*5)).off+1,none⟩=some (.int .i64 (aK L[j].ve).minor)/\w.cell? ⟨(a.add (j*5)).block,(a.add (j*5)).off+2,none⟩=some (.int .i64 (aK L[j].ve).patch)/\w.cell? ⟨(a.add (j*5)).block,(a.add (j*5)).off+3,none⟩=some (.string ⟨(aK L[j].ve).pre.toArray⟩)/\w.cell? ⟨(a.add (j*5)).block,(a.add (j*5)).off+4,none⟩=some (.string ⟨(aK L[j].ve).build.toArray⟩)
theorem VrS.grow{w w':World}{a:Addr}{L:List Re}(h:VrS w a L)(hg:w.grownBy w' none):VrS w' a L:=fun j hj=>by
 obtain⟨h0,h1,h2,h3,h4⟩:=h j hj;exact⟨hg.cell h0 (by simp),hg.cell h1 (by simp),hg.cell h2 (by simp),hg.cell h3 (by simp),hg.cell h4 (by simp)⟩
structure E2(b g:Nat)(w w':World):Prop where
 os:w'.os=w.os
 tape:w'.tape=w.tape
 output:w'.output=w.output
 size:w.heap.size<=w'.heap.size
 block:∀k,k<w.heap.size->¬k=b->¬k=g->w'.heap[k]?=w.heap[k]?
theorem E2.refl(b g:Nat)(w:World):E2 b g w w:=⟨rfl,rfl,rfl,Nat.le_refl _,fun _ _ _ _=>rfl⟩
theorem E2.then{b g:Nat}{w w' w'':World}(h:E2 b g w w')(hg:w'.grownBy w'' none):E2 b g w w'' :=
 ⟨hg.os.trans h.os,hg.tape.trans h.tape,hg.output.trans h.output,Nat.le_trans h.size hg.size,fun k hk h1 h2=>(hg.block k (Nat.lt_of_lt_of_le hk h.size) (by simp)).trans (h.block k hk h1 h2)⟩
theorem E2.set{b g:Nat}{w w':World}(h:E2 b g w w'){q:Nat}(hq:q=b\/q=g)(o:Nat)(v:Value):E2 b g w (w'.setCell ⟨q,o,none⟩ v) :=
 ⟨h.os,h.tape,h.output,by simpa [World.setCell] using h.size,fun k hk h1 h2=>(heap_setCell_other w' _ k _ (by rcases hq with rfl|rfl<;>assumption)).trans (h.block k hk h1 h2)⟩
theorem E2.gb{b g:Nat}{w0 w w':World}(h:E2 b g w w')(hg:w0.grownBy w none)(hb:w0.heap.size<=b)(hgg:w0.heap.size<=g):w0.grownBy w' none :=
 ⟨h.os.trans hg.os,h.tape.trans hg.tape,h.output.trans hg.output,Nat.le_trans hg.size h.size,fun k hk hn=>(h.block k (Nat.lt_of_lt_of_le hk hg.size) (by omega) (by omega)).trans (hg.block k hk hn)⟩
theorem E2.own{b g:Nat}{w w':World}(h:E2 b g w w'){base:Nat}{sl:Value}{L:List Sp}(ho:OS w base sl L)(hb:b<base)(hg:g<base):OS w' base sl L:=by
 refine⟨ho.1,?_⟩
 rcases ho.2 with h0|⟨q,cap,cur,h1,h2,h3,h4⟩
 ·exact Or.inl h0
 ·exact Or.inr ⟨q,cap,cur,h1,h2,(h.block q (aC h3) (by omega) (by omega)).trans h3,h4⟩
def iW(M:List Nat):Array Value:=(M.map fun(m:Nat)=>Value.int .u64 (m:Int)).toArray
def PSt(w:World)(b g n nam bar:Nat)(M:List Nat):Prop:=w.heap[b]?=some (.cells #[.int .u64 (nam:Nat),.int .u64 (bar:Nat),.slice (some ⟨g,0,none⟩) n n] 117 (0,0))/\w.heap[g]?=some (.cells (iW M) 114 (0,0))/\M.length=n
theorem PSt.grow{w w':World}{b g n nam bar:Nat}{M:List Nat}(h:PSt w b g n nam bar M)(hg:w.grownBy w' none):PSt w' b g n nam bar M :=
 ⟨(hg.block b (aC h.1) (by simp)).trans h.1,(hg.block g (aC h.2.1) (by simp)).trans h.2.1,h.2.2⟩
theorem PSt.nam{w:World}{b g n nam bar:Nat}{M:List Nat}(h:PSt w b g n nam bar M)(hbg:¬g=b)(x:Nat):PSt (w.setCell ⟨b,0,none⟩ (.int .u64 (x:Nat))) b g n x bar M:=by
 refine⟨?_,(heap_setCell_other w _ g _ (by simpa using hbg)).trans h.2.1,h.2.2⟩;rw[World.setCell,Array.getElem?_modify,if_pos rfl,h.1];rfl
theorem PSt.bar{w:World}{b g n nam bar:Nat}{M:List Nat}(h:PSt w b g n nam bar M)(hbg:¬g=b)(x:Nat):PSt (w.setCell ⟨b,1,none⟩ (.int .u64 (x:Nat))) b g n nam x M:=by
 refine⟨?_,(heap_setCell_other w _ g _ (by simpa using hbg)).trans h.2.1,h.2.2⟩;rw[World.setCell,Array.getElem?_modify,if_pos rfl,h.1];rfl
theorem PSt.met{w:World}{b g n nam bar:Nat}{M:List Nat}(h:PSt w b g n nam bar M)(hbg:¬g=b)(i x:Nat):PSt (w.setCell ⟨g,i,none⟩ (.int .u64 (x:Nat))) b g n nam bar (M.set i x):=by
 refine⟨(heap_setCell_other w _ b _ (by simpa using fun e=>hbg e.symm)).trans h.1,?_,by simpa using h.2.2⟩;rw[World.setCell,Array.getElem?_modify,if_pos rfl,h.2.1];simp only[Option.map_some];congr 2;unfold iW;rw[List.map_set];simp
theorem PSt.cells{w:World}{b g n nam bar:Nat}{M:List Nat}(h:PSt w b g n nam bar M):w.cell? ⟨b,0,none⟩=some (.int .u64 (nam:Nat))/\w.cell? ⟨b,1,none⟩=some (.int .u64 (bar:Nat))/\w.cell? ⟨b,2,none⟩=some (.slice (some ⟨g,0,none⟩) n n)/\(∀i,w.frozen? ⟨b,i,none⟩=false) :=
 ⟨by rw[ah h.1];rfl,by rw[ah h.1];rfl,by rw[ah h.1];rfl,fun i=>Lib.frozen_of_heap h.1 i⟩
theorem PSt.cell{w:World}{b g n nam bar:Nat}{M:List Nat}(h:PSt w b g n nam bar M)(i:Nat)(hi:i<M.length):w.cell? ⟨g,i,none⟩=some (.int .u64 (M[i]:Nat))/\w.frozen? ⟨g,i,none⟩=false:=by
 refine⟨?_,Lib.frozen_of_heap h.2.1 i⟩;rw[ah h.2.1];unfold iW;simp[hi]
end Go.Proofs.YtiinliaoojfjaaaGreatDoor
