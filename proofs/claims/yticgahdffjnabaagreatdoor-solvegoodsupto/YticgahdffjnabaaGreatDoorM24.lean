import Derived.Test.YticgahdffjnabaaGreatDoorM23
import Derived.Laws.AppendOwnNone
import Derived.OwnWalk
import Derived.Test.YticgahdffjnabaaGreatDoorM19
set_option linter.unusedVariables false
set_option maxHeartbeats 1600000
namespace Go.Proofs.YticgahdffjnabaaGreatDoor
open Go.RowKit
theorem psets_bad {l:List UInt8} {f i:Nat} {acc:List (List Te)} (h:¬ (pset l (l.length+1) (skipW l i) []).1=0):psets l (f+1) i acc=((pset l (l.length+1) (skipW l i) []).1,(pset l (l.length+1) (skipW l i) []).2.1,acc):=by
 have e:oneP l i=pset l (l.length+1) (skipW l i) []:=by unfold oneP after;rw [if_neg h]
 rw [psets,e,if_neg h]
theorem oneP_ok {l:List UInt8} {i:Nat} (h:(pset l (l.length+1) (skipW l i) []).1=0):oneP l i=if endsAt l (skipW l (pset l (l.length+1) (skipW l i) []).2.1)=true then (0,skipW l (pset l (l.length+1) (skipW l i) []).2.1,(pset l (l.length+1) (skipW l i) []).2.2) else (2,skipW l (pset l (l.length+1) (skipW l i) []).2.1,(pset l (l.length+1) (skipW l i) []).2.2):=by
 unfold oneP after;rw [if_pos h]
theorem psets_end {l:List UInt8} {f i:Nat} {acc:List (List Te)} (h:(pset l (l.length+1) (skipW l i) []).1=0) (hl:l.length<=skipW l (pset l (l.length+1) (skipW l i) []).2.1) :
  psets l (f+1) i acc=(0,skipW l (pset l (l.length+1) (skipW l i) []).2.1,acc++[(pset l (l.length+1) (skipW l i) []).2.2]):=by
 have he:endsAt l (skipW l (pset l (l.length+1) (skipW l i) []).2.1)=true:=by unfold endsAt;rw [decide_eq_true hl];rfl
 have e:=oneP_ok h;rw [if_pos he] at e;rw [psets,e,if_pos rfl];simp only [];rw [if_pos hl]
theorem psets_txt {l:List UInt8} {f i:Nat} {acc:List (List Te)} (h:(pset l (l.length+1) (skipW l i) []).1=0) (hl:¬ l.length<=skipW l (pset l (l.length+1) (skipW l i) []).2.1) (hb:¬ barsAt l (skipW l (pset l (l.length+1) (skipW l i) []).2.1)=true) :
  psets l (f+1) i acc=(2,skipW l (pset l (l.length+1) (skipW l i) []).2.1,acc):=by
 have he:¬ endsAt l (skipW l (pset l (l.length+1) (skipW l i) []).2.1)=true:=by
  unfold endsAt;rw [decide_eq_false hl];simpa using hb
 have e:=oneP_ok h;rw [if_neg he] at e;rw [psets,e,if_neg (by simp)]
theorem psets_more {l:List UInt8} {f i:Nat} {acc:List (List Te)} (h:(pset l (l.length+1) (skipW l i) []).1=0) (hl:¬ l.length<=skipW l (pset l (l.length+1) (skipW l i) []).2.1) (hb:barsAt l (skipW l (pset l (l.length+1) (skipW l i) []).2.1)=true) :
  psets l (f+1) i acc=psets l f (skipW l (pset l (l.length+1) (skipW l i) []).2.1+2) (acc++[(pset l (l.length+1) (skipW l i) []).2.2]):=by
 have he:endsAt l (skipW l (pset l (l.length+1) (skipW l i) []).2.1)=true:=by unfold endsAt;rw [hb];simp
 have e:=oneP_ok h;rw [if_pos he] at e;rw [psets,e,if_pos rfl];simp only [];rw [if_neg hl]
theorem own_cells {w:World} {base g:Nat} {e:TypeId} {size n cap:Nat} {xs:List Value} (h:w.ownsRow base e size (.slice (some ⟨g,0,none⟩) n cap) n xs):∀j u,xs[j]?=some u->w.cell? ((⟨g,0,none⟩:Addr).add j)=some u:=by
 intro j u hu
 rcases h.2 with ⟨h1,_⟩ | ⟨g',cap',cur,hv,hb,hc,h3,h4,h5,h6⟩
 ·cases h1
 ·simp only [Value.slice.injEq,Option.some.injEq,Addr.mk.injEq] at hv;obtain ⟨⟨rfl,_,_⟩,_,_⟩:=hv;rw [add_zero_off,cell_of_row w g j cur e (0,0) hc];rw [<-h6,List.getElem?_take] at hu;split at hu
  ·simpa using hu
  ·cases hu
theorem news_all (L:List Sp):∀u ∈ L.flatMap spC,u.oneCell'=true:=by
 intro u hu;obtain ⟨s,_,hs⟩:=List.mem_flatMap.1 hu;exact news_one s u hs
theorem gb_rowb {w wa wb:World} {row:Option Nat} {b:Nat} (h:w.grownBy wa (some b)) (hg:wa.grownBy wb row) (hr:∀q,row=some q->w.heap.size<=q):w.grownBy wb (some b) :=
 ⟨hg.os.trans h.os,hg.tape.trans h.tape,hg.output.trans h.output,Nat.le_trans h.size hg.size,fun k hk hn=>(hg.block k (Nat.lt_of_lt_of_le hk h.size) (fun e=>by have:=hr k e.symm;omega)).trans (h.block k hk hn)⟩
theorem RS.growr {b:Nat} {s:ByteArray} {i:Nat} {w w':World} {row:Option Nat} (h:RS b s i w) (hg:w.grownBy w' row) (hn:some b ≠ row):RS b s i w':=by
 obtain ⟨t,h⟩:=h;exact ⟨t,by rw [hg.block b ((hqL h)) hn];exact h⟩
theorem OS.far {w:World} {base:Nat} {sl:Value} {L:List Sp} (h:OS w base sl L):∀q,sl.ownBlock=some q->base<=q:=by
 intro q hq
 rcases h.2 with ⟨h1,_⟩ | ⟨g,cap,cur,hv,hb,_⟩
 ·rw [h1] at hq;cases hq
 ·rw [hv] at hq;simp only [Value.ownBlock,Option.some.injEq] at hq;omega
def SetsPost (b:Nat) (s:ByteArray) (R:Int × Nat × List (List Te)) (w:World) (e:Ending) (w':World):Prop :=
 ∃(o:Option Addr) (n c:Nat),e=.returned (.tuple #[.slice o n c,.int .i64 R.1])/\RS b s R.2.1 w'/\w.grownBy w' (some b)/\(R.1=0->∃L,OS w' w.heap.size (.slice o n c) L/\LOk L 70000/\Has L (admS R.2.2))
theorem has_none:Has [] (admS []):=fun v _=>rfl
theorem has_both {L M:List Sp} {S:List (List Te)} {ts:List Te} (h:Has L (admS S)) (h':Has M (admL ts)):Has (L++M) (admS (S++[ts])):=fun v hv=>by rw [holds_app,h v hv,h' v hv,admS_snoc]
set_option maxRecDepth 100000 in
theorem sets_any (b:Nat) (s:ByteArray) (w:World) (h:RS b s 0 w) (hs:s.size<=200) :
  Calls Tryz.prog 52 #[.pointer (some ⟨b,0,none⟩)] w (SetsPost b s (psets s.data.toList (s.data.toList.length+1) 0 []) w):=by
 obtain ⟨l,hl⟩:=nm (s.data.toList);have hll:l.length=s.size:=by rw [<-hl];simp
 have HLL:Hd (l.length=s.size/\s.size<=200):=⟨hll,hs⟩;have CS:Hd (∀i w,i<=s.size->RS b s i w->Calls Tryz.prog 69 #[.pointer (some ⟨b,0,none⟩)] w (SetPost b s (pset l (l.length+1) (skipW l i) []) w)):=fun i w hi h=>by rw [<-hl];exact set_any b s i w hi h hs
 have CB:Hd (∀i w,i<=s.size->RS b s i w->Calls Tryz.prog 70 #[.pointer (some ⟨b,0,none⟩)] w fun e w'=>e=.returned (.bool (decide (i < skipW l i)))/\RS b s (skipW l i) w'/\w.grownBy w' (some b)):=fun i w hi h=>by rw [<-hl];exact blanks_any b s i w hi h (by omega)
 have CE:Hd (∀i w,RS b s i w->Calls Tryz.prog 51 #[.pointer (some ⟨b,0,none⟩)] w fun e w'=>e=.returned (.bool (decide (i=s.size)))/\∃n,w'=w.drewN n):=fun i w h=>ended_any b s i w h
 have CT:Hd (∀i w,i<=s.size->RS b s i w->Calls Tryz.prog 66 #[.pointer (some ⟨b,0,none⟩),.string ⟨#[124,124]⟩] w fun e w'=>e=.returned (.bool (barsAt l i))/\RS b s (if barsAt l i=true then i+2 else i) w'/\w.grownBy w' (some b)):=fun i w hi h=>by
  have:=take_any b s ⟨#[124,124]⟩ i w hi h (by omega) (by show 2 < _;decide);rw [show (ByteArray.mk #[124,124]).data.toList=[124,124] from rfl,prefix_two,hl] at this;exact this
 have HSK:Hd (∀i,i<=s.size->i<=skipW l i/\skipW l i<=s.size):=fun i hi=>⟨skip_ge l i,by have:=skip_le l i (by rw [hll];exact hi);rw [hll] at this;exact this⟩
 have HSP:Hd (∀i,i<=s.size->(pset l (l.length+1) (skipW l i) []).1=0->i<=(pset l (l.length+1) (skipW l i) []).2.1/\(pset l (l.length+1) (skipW l i) []).2.1<=s.size):=fun i hi h0=>by
  have h1:=HSK.o i hi;have h2:=pset_place l (l.length+1) (skipW l i) [] (by rw [hll];exact h1.2) h0;exact ⟨by omega,by rw [<-hll];exact h2.2⟩
 have HI:Hd (RS b s 0 w):=h;have HBb:Hd (b < w.heap.size):=by obtain ⟨t,h⟩:=h;exact (hqL h)
 rw [hl];obtain ⟨E0,J0,S0,hR⟩:∃E0 J0 S0,psets l (l.length+1) 0 []=(E0,J0,S0):=⟨_,_,_,rfl⟩;have HR0:Hd (psets l (l.length+1) 0 []=(E0,J0,S0)):=hR;rw [hR];obtain ⟨B,hB⟩:=nm (w.heap.size);have HB:Hd (w.heap.size=B/\b < B):=⟨hB,by rw [<-hB];exact HBb.o⟩;clear hl hll hR h hs hB;go_enter Tryz.func52,Tryz.ntmps52;go_wp2;go_loopw [4] (fun va wr=>∃(f j:Nat) (acc:List (List Te)) (L:List Sp),j<=s.size/\l.length < f+j/\acc.length<=j/\psets l f j acc=(E0,J0,S0)/\RS b s j wr/\OS wr B va L/\LOk L (300 * acc.length)/\Has L (admS acc)/\w.grownBy wr (some b)) (fun _ wr=>s.size - placeOf b wr)
 case atStart=>exact ⟨l.length+1,0,[],[],Nat.zero_le _,by omega,Nat.le_refl _,HR0.o,HI.o,OS.emp _ _,⟨rfl,fun s hs=>(by cases hs),Nat.le_refl _⟩,has_none,gb_refl _ _⟩
 case round =>
  obtain ⟨f,j,acc,L,hj,hf,ha,hps,hrs,hos,hlok,hhas,hg⟩:=hrel;clear HI HR0;obtain ⟨o,n0,c0,rfl⟩:=hos.slice;obtain ⟨f,rfl⟩:∃f',f=f'+1:=by
   cases f with
   | zero=>have:=HLL.o.1;omega
   | succ f=>exact ⟨f,rfl⟩
  have HJ:Hd (j<=s.size):=hj;have HF:Hd (l.length < f+1+j):=hf;have HA:Hd (acc.length<=j):=ha;have HPS:Hd (psets l (f+1) j acc=(E0,J0,S0)):=hps;have HRS:Hd (RS b s j wr):=hrs;have HPLA:Hd (placeOf b wr=j):=hrs.place;have HOS:Hd (OS wr B (.slice o n0 c0) L):=hos;have HLK:Hd (LOk L (300 * acc.length)):=hlok;have HHS:Hd (Has L (admS acc)):=hhas;have HG:Hd (w.grownBy wr (some b)):=hg;clear hj hf ha hps hrs hos hlok hhas hg;have CSJ:Hd (∀w,RS b s j w->Calls Tryz.prog 69 #[.pointer (some ⟨b,0,none⟩)] w (SetPost b s (pset l (l.length+1) (skipW l j) []) w)):=fun w h=>CS.o j w HJ.o h
  have HPJ:Hd ((pset l (l.length+1) (skipW l j) []).1=0->j<=(pset l (l.length+1) (skipW l j) []).2.1/\(pset l (l.length+1) (skipW l j) []).2.1<=s.size):=HSP.o j HJ.o;have BAD:Hd (¬ (pset l (l.length+1) (skipW l j) []).1=0->psets l (f+1) j acc=((pset l (l.length+1) (skipW l j) []).1,(pset l (l.length+1) (skipW l j) []).2.1,acc)):=fun h=>psets_bad h
  have LAST:Hd ((pset l (l.length+1) (skipW l j) []).1=0->l.length<=skipW l (pset l (l.length+1) (skipW l j) []).2.1->psets l (f+1) j acc=(0,skipW l (pset l (l.length+1) (skipW l j) []).2.1,acc++[(pset l (l.length+1) (skipW l j) []).2.2])):=fun h h1=>psets_end h h1
  have TXT:Hd ((pset l (l.length+1) (skipW l j) []).1=0->¬ l.length<=skipW l (pset l (l.length+1) (skipW l j) []).2.1->¬ barsAt l (skipW l (pset l (l.length+1) (skipW l j) []).2.1)=true->psets l (f+1) j acc=(2,skipW l (pset l (l.length+1) (skipW l j) []).2.1,acc)):=fun h h1 h2=>psets_txt h h1 h2
  have MORE:Hd ((pset l (l.length+1) (skipW l j) []).1=0->¬ l.length<=skipW l (pset l (l.length+1) (skipW l j) []).2.1->barsAt l (skipW l (pset l (l.length+1) (skipW l j) []).2.1)=true->psets l (f+1) j acc=psets l f (skipW l (pset l (l.length+1) (skipW l j) []).2.1+2) (acc++[(pset l (l.length+1) (skipW l j) []).2.2])):=fun h h1 h2=>psets_more h h1 h2
  obtain ⟨E,J,ts,hR⟩:∃E J ts,pset l (l.length+1) (skipW l j) []=(E,J,ts):=⟨_,_,_,rfl⟩;rw [hR] at CSJ HPJ BAD LAST TXT MORE;simp only [] at HPJ BAD LAST TXT MORE;rw [HPS.o] at BAD LAST TXT MORE;clear hR;go_wp2_with (first | (go_at_call 69;refine (CSJ.o _ HRS.o).mono ?_));rintro e u1 ⟨o1,n1,c1,rfl,hr,hg,hok⟩;replace HRS:Hd (RS b s J u1):=hr;replace HOS:Hd (OS u1 B (.slice o n0 c0) L):=HOS.o.growb hg HB.o.2;have HBW:Hd (B<=wr.heap.size):=by have:=HG.o.size;rw [HB.o.1] at this;exact this
  replace HG:Hd (w.grownBy u1 (some b)):=gb_trans HG.o hg;have HOK:Hd (E=0->∃L,OS u1 B (.slice o1 n1 c1) L/\LOk L 300/\Has L (admL ts)):=fun h0=>by
   obtain ⟨L1,h1,h2,h3⟩:=hok h0;exact ⟨L1,h1.base HBW.o,h2,h3⟩
  clear hr hg hok
  cases hz:(E == 0) with
  | false =>
   have hE0:¬ E=0:=by simpa using hz
   have HB2:Hd ((E0,J0,S0)=(E,J,acc)):=BAD.o hE0;have HE0:Hd (¬ E=0):=hE0;clear hE0;go_wp2;refine bodyPost_ret (results_tmp2 (t:=2) (u:=3) rfl _ _ _) rfl ?_;rw [HB2.o];exact ⟨_,_,_,rfl,HRS.o,HG.o,fun h=>absurd h HE0.o⟩
  | true =>
   have hE0:E=0:=by simpa using hz
   subst hE0;obtain ⟨hp1,hp2⟩:=HPJ.o rfl;have HP:Hd (j<=J/\J<=s.size):=⟨hp1,hp2⟩;obtain ⟨L1,ho1,hl1,hh1⟩:=HOK.o rfl;have HO1:Hd (OS u1 B (.slice o1 n1 c1) L1):=ho1;have HN1:Hd (n1=L1.length/\n0=L.length):=by
    constructor
    ·rcases ho1.2 with ⟨h1,h2⟩ | ⟨g,cap,cur,hv,_⟩
     ·cases h1;exact h2.symm
     ·cases hv;rfl
    ·rcases HOS.o.2 with ⟨h1,h2⟩ | ⟨g,cap,cur,hv,_⟩
     ·cases h1;exact h2.symm
     ·cases hv;rfl
   have HLN:Hd (LOk (L++L1) (300 * (acc++[ts]).length)):=by
    have:=HLK.o.app hl1;refine this.mono ?_;rw [List.length_append];simp;omega
   have HHN:Hd (Has (L++L1) (admS (acc++[ts]))):=has_both HHS.o hh1;have CBJ:Hd (∀w,RS b s J w->Calls Tryz.prog 70 #[.pointer (some ⟨b,0,none⟩)] w fun e w'=>e=.returned (.bool (decide (J < skipW l J)))/\RS b s (skipW l J) w'/\w.grownBy w' (some b)):=fun w h=>CB.o J w HP.o.2 h
   have HKK:Hd (J<=skipW l J/\skipW l J<=s.size):=HSK.o J HP.o.2;obtain ⟨K,hK⟩:=nm (skipW l J);rw [hK] at CBJ HKK LAST TXT MORE;clear hp1 hp2 hK hz ho1 hl1 hh1 HOK;have hinfo:=infoSp;obtain ⟨i1,hj0,hjj⟩:=Option.map_eq_some_iff.1 hinfo;have hy0:i1.zero=some (.agg #[.int .i64 0,.int .i64 0,.int .i64 0,.string ⟨#[]⟩,.string ⟨#[]⟩,.int .i64 0,.int .i64 0,.int .i64 0,.string ⟨#[]⟩,.string ⟨#[]⟩,.bool false]):=congrArg (·.1) hjj;have hy1:i1.size=11:=congrArg (·.2.1) hjj;have hyb:i1.bytes=120:=congrArg (·.2.2) hjj;clear hjj hinfo;have HLL2:Hd (L.length+L1.length<=70000):=by
    have h1:=HLN.o.ln;have h2:=HA.o;have h3:=HJ.o;have h4:=HLL.o.2;rw [List.length_append,List.length_append] at h1;show _<=_;simp at h1;omega
   have hfm:=HO1.o.2
   rcases hfm with ⟨h1,h2⟩ | ⟨g,cap,cur,hv,_⟩
   ·simp only [Value.slice.injEq] at h1;obtain ⟨rfl,rfl,rfl⟩:=h1;have hL1:L1=[]:=List.length_eq_zero_iff.1 h2;have HON:Hd (OS u1 B (.slice o n0 c0) (L++L1)):=by show OS u1 B _ _;rw [hL1,List.append_nil];exact HOS.o
    clear h2 hL1;go_wp2_with (first | (at_builtin;refine wpList_append_own_none rfl _ _ 84 rfl B 110 i1 11 Tryz.underlying84 hj0 _ _ _ rfl HOS.o rfl ?_));clear hj0 hy0 hy1 hyb;obtain ⟨o2,n2,c2,hva⟩:=HON.o.slice;rw [hva] at HON
    try rw [hva]
    clear hva;go_wp2_with (first | (go_at_call 70;refine (CBJ.o _ HRS.o).mono ?_));rintro e u3 ⟨rfl,hr,hg⟩;replace HRS:Hd (RS b s K u3):=hr;replace HON:Hd (OS u3 B (.slice o2 n2 c2) (L++L1)):=HON.o.growb hg HB.o.2;replace HG:Hd (w.grownBy u3 (some b)):=gb_trans HG.o hg;clear hr hg;have CEK:Hd (∀w,RS b s K w->Calls Tryz.prog 51 #[.pointer (some ⟨b,0,none⟩)] w fun e w'=>e=.returned (.bool (decide (K=s.size)))/\∃n,w'=w.drewN n):=fun w h=>CE.o K w h
    have CTK:Hd (∀w,RS b s K w->Calls Tryz.prog 66 #[.pointer (some ⟨b,0,none⟩),.string ⟨#[124,124]⟩] w fun e w'=>e=.returned (.bool (barsAt l K))/\RS b s (if barsAt l K=true then K+2 else K) w'/\w.grownBy w' (some b)):=fun w h=>CT.o K w HKK.o.2 h
    cases hend:decide (K=s.size) with
    | true =>
     rw [hend] at CEK;have hke:=of_decide_eq_true hend;obtain ⟨rfl,rfl,rfl⟩:E0=0/\J0=K/\S0=acc++[ts]:=by have:=LAST.o (by first | trivial | rfl) (by have:=HLL.o.1;omega);simpa using this
     clear hend hke;go_wp2_with (first | (go_at_call 51;refine (CEK.o _ HRS.o).mono ?_));rintro e u4 ⟨rfl,n,hn⟩;replace HRS:Hd (RS b s J0 u4):=by show RS b s J0 u4;rw [hn];exact HRS.o.drew n
     replace HON:Hd (OS u4 B (.slice o2 n2 c2) (L++L1)):=by show OS u4 B _ _;rw [hn];exact HON.o
     replace HG:Hd (w.grownBy u4 (some b)):=by show w.grownBy u4 (some b);rw [hn];exact gb_drew HG.o n
     clear hn;go_wp2;exact bodyPost_ret (results_tmp2 (t:=2) (u:=3) rfl _ _ _) rfl ⟨_,_,_,rfl,HRS.o,HG.o,fun _=>⟨L++L1,by rw [HB.o.1];exact HON.o,HLN.o.mono (by rw [List.length_append];have h2:=HA.o;have h3:=HJ.o;have h4:=HLL.o.2;simp;omega),HHN.o⟩⟩
    | false =>
     rw [hend] at CEK;have HNE:Hd (¬ l.length<=K):=by show ¬ _;have:=of_decide_eq_false hend;have:=HLL.o.1;have:=HKK.o.2;omega
     clear hend;go_wp2_with (first | (go_at_call 51;refine (CEK.o _ HRS.o).mono ?_));rintro e u4 ⟨rfl,n,hn⟩;replace HRS:Hd (RS b s K u4):=by show RS b s K u4;rw [hn];exact HRS.o.drew n
     replace HON:Hd (OS u4 B (.slice o2 n2 c2) (L++L1)):=by show OS u4 B _ _;rw [hn];exact HON.o
     replace HG:Hd (w.grownBy u4 (some b)):=by show w.grownBy u4 (some b);rw [hn];exact gb_drew HG.o n
     clear hn
     cases hbar:barsAt l K with
     | true =>
      rw [hbar] at CTK;have CTY:Hd (∀w,RS b s K w->Calls Tryz.prog 66 #[.pointer (some ⟨b,0,none⟩),.string ⟨#[124,124]⟩] w fun e w'=>e=.returned (.bool true)/\RS b s (K+2) w'/\w.grownBy w' (some b)):=CTK.o;have HNX:Hd ((E0,J0,S0)=psets l f (K+2) (acc++[ts])):=MORE.o (by first | trivial | rfl) HNE.o hbar;have HK2:Hd (K+2<=s.size):=by have:=bars_lt l K hbar;rw [HLL.o.1] at this;exact this
      clear hbar CTK;go_wp2_with (first | (go_at_call 66;refine (CTY.o _ HRS.o).mono ?_));rintro e u5 ⟨rfl,hr,hg⟩;replace HRS:Hd (RS b s (K+2) u5):=hr;replace HON:Hd (OS u5 B (.slice o2 n2 c2) (L++L1)):=HON.o.growb hg HB.o.2;replace HG:Hd (w.grownBy u5 (some b)):=gb_trans HG.o hg;clear hr hg;go_wp2;go_roundw
      case rel=>exact ⟨f,K+2,acc++[ts],L++L1,HK2.o,by have h1:=HF.o;have h2:=HP.o.1;have h3:=HKK.o.1;omega,by rw [List.length_append];have h1:=HA.o;have h2:=HP.o.1;have h3:=HKK.o.1;simp;omega,HNX.o.symm,HRS.o,HON.o,HLN.o,HHN.o,HG.o⟩
      case measure =>
       have e1:=HPLA.o;have e2:=HRS.o.place;rw [e1];exact Nat.lt_of_le_of_lt (Nat.le_of_eq (congrArg (s.size - ·) e2)) (by have h1:=HP.o;have h2:=HKK.o;have h3:=HK2.o;omega)
     | false =>
      rw [hbar] at CTK;have CTN:Hd (∀w,RS b s K w->Calls Tryz.prog 66 #[.pointer (some ⟨b,0,none⟩),.string ⟨#[124,124]⟩] w fun e w'=>e=.returned (.bool false)/\RS b s K w'/\w.grownBy w' (some b)):=CTK.o;have HNX:Hd ((E0,J0,S0)=(2,K,acc)):=TXT.o (by first | trivial | rfl) HNE.o (by rw [hbar];decide);clear hbar CTK;go_wp2_with (first | (go_at_call 66;refine (CTN.o _ HRS.o).mono ?_));rintro e u5 ⟨rfl,hr,hg⟩;replace HRS:Hd (RS b s K u5):=hr;replace HG:Hd (w.grownBy u5 (some b)):=gb_trans HG.o hg;clear hr hg;go_wp2;refine bodyPost_ret (results_tmp2 (t:=2) (u:=3) rfl _ _ _) rfl ?_;rw [HNX.o];exact ⟨_,_,_,rfl,HRS.o,HG.o,fun h=>absurd h (by simp)⟩
   ·simp only [Value.slice.injEq] at hv;obtain ⟨rfl,hn1,rfl⟩:=hv;subst hn1;go_wp2_with (first | (at_builtin;refine wpList_append_own _ rfl _ _ 84 rfl B 110 i1 _ 11 120 Tryz.underlying84 hj0 hy0 hy1 hyb rfl (by decide) _ _ _ rfl HOS.o _ _ _ (L1.flatMap spC) rfl HO1.o.1 (own_cells HO1.o) (news_all L1) (by unfold maxLen;have:=HLL2.o;omega) (by have:=HLL2.o;omega) (by have h1:=HG.o.size;rw [HB.o.1] at h1;exact h1) ?_;intro v' u2 hown hgrow _));have HON:Hd (OS u2 B v' (L++L1)):=by show OS u2 B v' _;unfold OS;rw [List.length_append,List.flatMap_append];exact hown
    have hfar:=HOS.o.far;replace HRS:Hd (RS b s J u2):=HRS.o.growr hgrow (fun e=>by have:=hfar b e.symm;have:=HB.o.2;omega);replace HG:Hd (w.grownBy u2 (some b)):=gb_rowb HG.o hgrow (fun q hq=>by rw [HB.o.1];exact hfar q hq);clear hown hgrow hfar hj0 hy0 hy1 hyb;obtain ⟨o2,n2,c2,hva⟩:=HON.o.slice;rw [hva] at HON
    try rw [hva]
    clear hva;go_wp2_with (first | (go_at_call 70;refine (CBJ.o _ HRS.o).mono ?_));rintro e u3 ⟨rfl,hr,hg⟩;replace HRS:Hd (RS b s K u3):=hr;replace HON:Hd (OS u3 B (.slice o2 n2 c2) (L++L1)):=HON.o.growb hg HB.o.2;replace HG:Hd (w.grownBy u3 (some b)):=gb_trans HG.o hg;clear hr hg;have CEK:Hd (∀w,RS b s K w->Calls Tryz.prog 51 #[.pointer (some ⟨b,0,none⟩)] w fun e w'=>e=.returned (.bool (decide (K=s.size)))/\∃n,w'=w.drewN n):=fun w h=>CE.o K w h
    have CTK:Hd (∀w,RS b s K w->Calls Tryz.prog 66 #[.pointer (some ⟨b,0,none⟩),.string ⟨#[124,124]⟩] w fun e w'=>e=.returned (.bool (barsAt l K))/\RS b s (if barsAt l K=true then K+2 else K) w'/\w.grownBy w' (some b)):=fun w h=>CT.o K w HKK.o.2 h
    cases hend:decide (K=s.size) with
    | true =>
     rw [hend] at CEK;have hke:=of_decide_eq_true hend;obtain ⟨rfl,rfl,rfl⟩:E0=0/\J0=K/\S0=acc++[ts]:=by have:=LAST.o (by first | trivial | rfl) (by have:=HLL.o.1;omega);simpa using this
     clear hend hke;go_wp2_with (first | (go_at_call 51;refine (CEK.o _ HRS.o).mono ?_));rintro e u4 ⟨rfl,n,hn⟩;replace HRS:Hd (RS b s J0 u4):=by show RS b s J0 u4;rw [hn];exact HRS.o.drew n
     replace HON:Hd (OS u4 B (.slice o2 n2 c2) (L++L1)):=by show OS u4 B _ _;rw [hn];exact HON.o
     replace HG:Hd (w.grownBy u4 (some b)):=by show w.grownBy u4 (some b);rw [hn];exact gb_drew HG.o n
     clear hn;go_wp2;exact bodyPost_ret (results_tmp2 (t:=2) (u:=3) rfl _ _ _) rfl ⟨_,_,_,rfl,HRS.o,HG.o,fun _=>⟨L++L1,by rw [HB.o.1];exact HON.o,HLN.o.mono (by rw [List.length_append];have h2:=HA.o;have h3:=HJ.o;have h4:=HLL.o.2;simp;omega),HHN.o⟩⟩
    | false =>
     rw [hend] at CEK;have HNE:Hd (¬ l.length<=K):=by show ¬ _;have:=of_decide_eq_false hend;have:=HLL.o.1;have:=HKK.o.2;omega
     clear hend;go_wp2_with (first | (go_at_call 51;refine (CEK.o _ HRS.o).mono ?_));rintro e u4 ⟨rfl,n,hn⟩;replace HRS:Hd (RS b s K u4):=by show RS b s K u4;rw [hn];exact HRS.o.drew n
     replace HON:Hd (OS u4 B (.slice o2 n2 c2) (L++L1)):=by show OS u4 B _ _;rw [hn];exact HON.o
     replace HG:Hd (w.grownBy u4 (some b)):=by show w.grownBy u4 (some b);rw [hn];exact gb_drew HG.o n
     clear hn
     cases hbar:barsAt l K with
     | true =>
      rw [hbar] at CTK;have CTY:Hd (∀w,RS b s K w->Calls Tryz.prog 66 #[.pointer (some ⟨b,0,none⟩),.string ⟨#[124,124]⟩] w fun e w'=>e=.returned (.bool true)/\RS b s (K+2) w'/\w.grownBy w' (some b)):=CTK.o;have HNX:Hd ((E0,J0,S0)=psets l f (K+2) (acc++[ts])):=MORE.o (by first | trivial | rfl) HNE.o hbar;have HK2:Hd (K+2<=s.size):=by have:=bars_lt l K hbar;rw [HLL.o.1] at this;exact this
      clear hbar CTK;go_wp2_with (first | (go_at_call 66;refine (CTY.o _ HRS.o).mono ?_));rintro e u5 ⟨rfl,hr,hg⟩;replace HRS:Hd (RS b s (K+2) u5):=hr;replace HON:Hd (OS u5 B (.slice o2 n2 c2) (L++L1)):=HON.o.growb hg HB.o.2;replace HG:Hd (w.grownBy u5 (some b)):=gb_trans HG.o hg;clear hr hg;go_wp2;go_roundw
      case rel=>exact ⟨f,K+2,acc++[ts],L++L1,HK2.o,by have h1:=HF.o;have h2:=HP.o.1;have h3:=HKK.o.1;omega,by rw [List.length_append];have h1:=HA.o;have h2:=HP.o.1;have h3:=HKK.o.1;simp;omega,HNX.o.symm,HRS.o,HON.o,HLN.o,HHN.o,HG.o⟩
      case measure =>
       have e1:=HPLA.o;have e2:=HRS.o.place;rw [e1];exact Nat.lt_of_le_of_lt (Nat.le_of_eq (congrArg (s.size - ·) e2)) (by have h1:=HP.o;have h2:=HKK.o;have h3:=HK2.o;omega)
     | false =>
      rw [hbar] at CTK;have CTN:Hd (∀w,RS b s K w->Calls Tryz.prog 66 #[.pointer (some ⟨b,0,none⟩),.string ⟨#[124,124]⟩] w fun e w'=>e=.returned (.bool false)/\RS b s K w'/\w.grownBy w' (some b)):=CTK.o;have HNX:Hd ((E0,J0,S0)=(2,K,acc)):=TXT.o (by first | trivial | rfl) HNE.o (by rw [hbar];decide);clear hbar CTK;go_wp2_with (first | (go_at_call 66;refine (CTN.o _ HRS.o).mono ?_));rintro e u5 ⟨rfl,hr,hg⟩;replace HRS:Hd (RS b s K u5):=hr;replace HG:Hd (w.grownBy u5 (some b)):=gb_trans HG.o hg;clear hr hg;go_wp2;refine bodyPost_ret (results_tmp2 (t:=2) (u:=3) rfl _ _ _) rfl ?_;rw [HNX.o];exact ⟨_,_,_,rfl,HRS.o,HG.o,fun h=>absurd h (by simp)⟩
open Go.RowKit
def ParsePost (R:Int × Nat × List (List Te)) (w:World) (e:Ending) (w':World):Prop :=
 ∃(o:Option Addr) (n c:Nat),e=.returned (.tuple #[.slice o n c,.int .i64 R.1,.int .i64 (R.2.1:Int)])/\w.grownBy w' none/\(¬ R.1=0->Value.slice o n c=.slice none 0 0) ∧
  (R.1=0->∃T,OS w' w.heap.size (.slice o n c) (outs T)/\LOk (outs T) 70000/\NT T 2/\Has (outs T) (admS R.2.2))
theorem range_sets (l:List UInt8) (h:¬ 200 < l.length):((psets l (l.length+1) 0 []).1=0->rdRange l=(0,0,(psets l (l.length+1) 0 []).2.2))/\(¬ (psets l (l.length+1) 0 []).1=0->rdRange l=((psets l (l.length+1) 0 []).1,(psets l (l.length+1) 0 []).2.1,[])):=by
 obtain ⟨h1,h2,h3⟩:=sets_same l (l.length+1) 0 [] (Nat.zero_le _);unfold rdRange;rw [if_neg h];constructor
 ·intro h0;rw [if_pos (h1.symm.trans h0),h3 h0]
 ·intro h0;rw [if_neg (fun e=>h0 (h1.trans e)),h1,h2]
set_option maxRecDepth 100000 in
theorem rparse_any (s:ByteArray) (w:World) (hs:s.size < 2 ^ 62) :
  Calls Tryz.prog 37 #[.string s] w (ParsePost (rdRange s.data.toList) w):=by
 by_cases h200:200 < s.size
 ·have hR:rdRange s.data.toList=(1,0,[]):=by unfold rdRange;rw [if_pos (by simpa using h200)]
  rw [hR];clear hR;go_enter Tryz.func37,Tryz.ntmps37;go_wp2;exact bodyPost_ret (results_tmp3 (t:=2) (u:=3) (v:=4) rfl _ _ _) rfl ⟨_,_,_,rfl,gb_refl _ _,fun _=>rfl,fun h=>absurd h (by simp)⟩
 ·have hR:=range_sets s.data.toList (by simpa using h200);have CS:Hd (∀b w,RS b s 0 w->Calls Tryz.prog 52 #[.pointer (some ⟨b,0,none⟩)] w (SetsPost b s (psets s.data.toList (s.data.toList.length+1) 0 []) w)):=fun b w h=>sets_any b s w h (by omega)
  have CN:Hd (∀(sl:Value) (L:List Sp) (w:World),SpS w sl L->LOk L 70000->Calls Tryz.prog 53 #[sl] w (TOst (holdsL L) 70000 w)):=fun sl L w h1 h2=>oNormal sl L 70000 w h1 h2 (by omega)
  obtain ⟨E,J,S,hP⟩:∃E J S,psets s.data.toList (s.data.toList.length+1) 0 []=(E,J,S):=⟨_,_,_,rfl⟩;rw [hP] at CS hR;have HR:Hd ((E=0->rdRange s.data.toList=(0,0,S))/\(¬ E=0->rdRange s.data.toList=(E,J,[]))):=hR;obtain ⟨R,hRR⟩:=nm (rdRange s.data.toList);rw [hRR] at HR ⊢;clear hR hP hRR hs;go_enter Tryz.func37,Tryz.ntmps37;go_wp2_with (first | (go_at_call 52;refine (CS.o _ _ ⟨_,heap_alloc_new w _⟩).mono ?_));rintro e w1 ⟨o,n,c,rfl,hr,hg,hok⟩;obtain ⟨A,hA⟩:=nm (w.heap.size);have HG:Hd (w.grownBy w1 none):=gb_own hg;have hsz:w.heap.size<=(w.alloc (.cells #[.string s,.int .i64 0] 105)).heap.size:=by simp
  have HOK:Hd (E=0->∃L,OS w1 w.heap.size (.slice o n c) L/\LOk L 70000/\Has L (admS S)):=fun h=>by
   obtain ⟨L,h1,h2,h3⟩:=hok h;exact ⟨L,h1.base hsz,h2,h3⟩
  rw [hA] at hr;have HR1:Hd (RS A s J w1):=hr;have HA:Hd (w.heap.size=A):=hA
  try rw [hA]
  clear hA hr hg hok hsz
  cases hz:(E == 0) with
  | false =>
   have hE0:¬ E=0:=by simpa using hz
   have HE0:Hd (¬ E=0):=hE0;have e1:=HR1.o.c1;clear hE0;go_wp2;go_quiet (fail);go_wp2;refine bodyPost_ret (results_tmp3 (t:=2) (u:=3) (v:=4) rfl _ _ _) rfl ?_;rw [HR.o.2 HE0.o];exact ⟨_,_,_,rfl,gb_drew HG.o _,fun _=>rfl,fun h=>absurd h HE0.o⟩
  | true =>
   have hE0:E=0:=by simpa using hz
   subst hE0;obtain ⟨L,ho,hl,hh⟩:=HOK.o rfl;have CNL:Hd (Calls Tryz.prog 53 #[.slice o n c] w1 (TOst (holdsL L) 70000 w1)):=CN.o _ L w1 ho.sps hl;have HH:Hd (Has L (admS S)):=hh;have HRR:Hd (R=(0,0,S)):=HR.o.1 rfl;clear ho hl hh hz HOK HR;go_wp2_with (first | (go_at_call 53;refine CNL.o.mono ?_));rintro e w2 ⟨hg,o',n',c',T,rfl,hos,hlk,hnt,hh⟩;have HF:Hd (w.grownBy w2 none/\OS w2 w.heap.size (.slice o' n' c') (outs T)/\LOk (outs T) 70000/\NT T 2/\Has (outs T) (admS S)) :=
    ⟨gb_trans HG.o hg,hos.base HG.o.size,hlk,hnt,fun v hv=>by rw [hh];exact HH.o v hv⟩
   clear hg hos hlk hnt hh;go_wp2;refine bodyPost_ret (results_tmp3 (t:=2) (u:=3) (v:=4) rfl _ _ _) rfl ?_;rw [HRR.o];exact ⟨_,_,_,rfl,HF.o.1,fun h=>absurd rfl h,fun _=>⟨T,HF.o.2.1,HF.o.2.2.1,HF.o.2.2.2.1,HF.o.2.2.2.2⟩⟩
open Go.RowKit
theorem ver_bad (l:List UInt8) (h:¬ (rdVer l).1=0):(rdVer l).2.2=zeroV:=by
 unfold rdVer at h ⊢
 repeat' split
 all_goals first | rfl | (exfalso;simp_all)
theorem ver_good (l:List UInt8) (h:(rdVer l).1=0):(rdVer l).2.1=0:=by
 unfold rdVer at h ⊢
 repeat' split
 all_goals first | rfl | (exfalso;simp_all)
def valV (v:Vv):Value:=.agg #[.int .i64 v.major,.int .i64 v.minor,.int .i64 v.patch,.string ⟨v.pre.toArray⟩,.string ⟨v.build.toArray⟩]
set_option maxRecDepth 100000 in
theorem parse_any (s:ByteArray) (w:World) (hs:s.size < 2 ^ 62) :
  Calls Tryz.prog 22 #[.string s] w fun e w'=>e=.returned (.tuple #[valV (parseV s.data.toList).2.2,.int .i64 (parseV s.data.toList).1,.int .i64 ((parseV s.data.toList).2.1:Nat)])/\w.grownBy w' none:=by
 by_cases h100:100 < s.size
 ·have hp:parseV s.data.toList=(1,0,zeroV):=by unfold parseV;rw [if_pos (by simpa using h100)]
  rw [hp];clear hp;go_enter Tryz.func22,Tryz.ntmps22;go_wp2;exact bodyPost_ret (res_row_tmp2 (p:=2) (u:=3) (r:=4) rfl _ _ w.heap.size _ _ (0,0) _ rfl (heap_alloc_new w _) Tryz.underlying69 rfl (by kernel_rfl)) rfl ⟨rfl,gb_alloc (gb_refl w none) _⟩
 ·have hp:parseV s.data.toList=rdVer s.data.toList:=by unfold parseV;rw [if_neg (by simpa using h100)]
  rw [hp];have CV:Hd (∀b w,RS b s 0 w->Calls Tryz.prog 36 #[.pointer (some ⟨b,0,none⟩)] w (VerPost b s w)):=fun b w h=>version_any b s w h (by omega)
  clear hp hs;go_enter Tryz.func22,Tryz.ntmps22;go_wp2_with (go_at_call 36;refine (CV.o _ _ ⟨_,row2 w _ _⟩).mono ?_);rintro e w1 ⟨x1,x2,x3,x4,x5,E,j,rfl,hr,hg,hE,hok,herr⟩;obtain ⟨A,hA⟩:=nm (w.heap.size);have HXA:Hd (VX A 0 0 0 ⟨#[]⟩ ⟨#[]⟩ w1):=by
   show w1.heap[A]?=_;rw [<-hA,hg.block w.heap.size (by simp;omega) (by simp),Lib.alloc_old _ _ _ (by simp)];exact heap_alloc_new w _
  have HG:Hd (w.grownBy w1 none):=by
   refine ⟨hg.os,hg.tape,hg.output,by have:=hg.size;simp at this;omega,fun k hk _=>?_⟩;rw [hg.block k (by simp;omega) (by simp;omega),Lib.alloc_old _ _ _ (by simp;omega),Lib.alloc_old _ _ _ hk]
  have HWA:Hd (w.heap.size<=A):=Nat.le_of_eq hA;have HE:Hd (E=(rdVer s.data.toList).1/\(E=0->(rdVer s.data.toList).2.2=⟨x1,x2,x3,x4,x5⟩)/\(E ≠ 0->(rdVer s.data.toList).2.1=j)):=⟨hE,hok,herr⟩;rw [hA] at hr;have HR:Hd (RS (A+1) s j w1):=hr;rw [hA];clear hA hr hg hE hok herr;obtain ⟨ca0,ca1,ca2,ca3,ca4⟩:=HXA.o.cells;have ra:=HXA.o.f;have r1:=HR.o.c1;have hlt1:A+1 < w1.heap.size:=by obtain ⟨t,h⟩:=HR.o;exact (hqL h)
  have hlt0:A < w1.heap.size:=by omega
  cases hz:(E == 0) with
  | false =>
   go_wp2;obtain ⟨W,hW⟩:=nm (w1.alloc (.cells #[.int .i64 x1,.int .i64 x2,.int .i64 x3,.string ⟨x4.toArray⟩,.string ⟨x5.toArray⟩] 69));have hgW:w1.grownBy W none:=by rw [<-hW];exact gb_alloc (gb_refl w1 none) _
   have HXW:Hd (VX A 0 0 0 ⟨#[]⟩ ⟨#[]⟩ W):=by show W.heap[A]?=_;rw [hgW.block A hlt0 (by simp)];exact HXA.o
   have HRW:Hd (RS (A+1) s j W):=HR.o.grow hgW;have HGW:Hd (w.grownBy W none):=gb_trans HG.o hgW;rw [hW];clear hW hgW ca0 ca1 ca2 ca3 ca4 ra r1 hlt0 hlt1 HR HG HXA;obtain ⟨ca0,ca1,ca2,ca3,ca4⟩:=HXW.o.cells;have ra:=HXW.o.f;have r1:=HRW.o.c1;have HF:Hd ((rdVer s.data.toList).2.2=zeroV/\(rdVer s.data.toList).2.1=j/\(rdVer s.data.toList).1=E):=by
    have h0:¬ E=0:=by simpa using hz
    have h:=HE.o;exact ⟨ver_bad _ (by rw [<-h.1];exact h0),h.2.2 h0,h.1.symm⟩
   go_region
   go_wp2;refine bodyPost_ret (res_row_tmp2 (p:=2) (u:=3) (r:=4) rfl _ _ A _ _ (0,0) _ rfl (put5_row HXW.o 0 0 0 ⟨#[]⟩ ⟨#[]⟩) Tryz.underlying69 rfl (by kernel_rfl)) rfl ⟨?_,gb_drew (put5_gb0 HGW.o HWA.o 0 0 0 ⟨#[]⟩ ⟨#[]⟩) 1⟩;rw [HF.o.1,HF.o.2.1,HF.o.2.2];rfl
  | true =>
   have hE0:E=0:=by simpa using hz
   have HF:Hd ((rdVer s.data.toList).2.2=⟨x1,x2,x3,x4,x5⟩/\(rdVer s.data.toList).2.1=0/\(rdVer s.data.toList).1=0):=by
    have h:=HE.o;have h1:(rdVer s.data.toList).1=0:=by rw [<-h.1];exact hE0
    exact ⟨h.2.1 hE0,ver_good _ h1,h1⟩
   subst hE0;go_wp2;refine bodyPost_ret (res_row_tmp2 (p:=2) (u:=3) (r:=4) rfl _ _ A _ #[.int .i64 x1,.int .i64 x2,.int .i64 x3,.string ⟨x4.toArray⟩,.string ⟨x5.toArray⟩] (0,0) _ rfl ((Lib.alloc_old _ _ _ (by simpa [World.setCell] using hlt0)).trans (put5_row HXA.o x1 x2 x3 ⟨x4.toArray⟩ ⟨x5.toArray⟩)) Tryz.underlying69 rfl (by kernel_rfl)) rfl ⟨?_,gb_alloc (put5_gb0 HG.o HWA.o x1 x2 x3 ⟨x4.toArray⟩ ⟨x5.toArray⟩) _⟩;rw [HF.o.1,HF.o.2.1,HF.o.2.2];rfl
open Go.RowKit
def VS (b:Nat) (s:ByteArray) (i:Nat) (E:Int) (a:Nat) (w:World):Prop:=w.heap[b]?=some (.cells #[.string s,.int .i64 (i:Int),.int .i64 E,.int .i64 (a:Int)] 114 (0,0))
theorem VS.c0 {b:Nat} {s:ByteArray} {i:Nat} {E:Int} {a:Nat} {w:World} (h:VS b s i E a w):w.cell? ⟨b,0,none⟩=some (.string s):=by rw [cOH h];rfl
theorem VS.c1 {b:Nat} {s:ByteArray} {i:Nat} {E:Int} {a:Nat} {w:World} (h:VS b s i E a w):w.cell? ⟨b,1,none⟩=some (.int .i64 (i:Int)):=by rw [cOH h];rfl
theorem VS.c2 {b:Nat} {s:ByteArray} {i:Nat} {E:Int} {a:Nat} {w:World} (h:VS b s i E a w):w.cell? ⟨b,2,none⟩=some (.int .i64 E):=by rw [cOH h];rfl
theorem VS.c3 {b:Nat} {s:ByteArray} {i:Nat} {E:Int} {a:Nat} {w:World} (h:VS b s i E a w):w.cell? ⟨b,3,none⟩=some (.int .i64 (a:Int)):=by rw [cOH h];rfl
theorem VS.f1 {b:Nat} {s:ByteArray} {i:Nat} {E:Int} {a:Nat} {w:World} (h:VS b s i E a w):w.frozen? ⟨b,1,none⟩=false:=Lib.frozen_of_heap h 1
theorem VS.f2 {b:Nat} {s:ByteArray} {i:Nat} {E:Int} {a:Nat} {w:World} (h:VS b s i E a w):w.frozen? ⟨b,2,none⟩=false:=Lib.frozen_of_heap h 2
theorem VS.f3 {b:Nat} {s:ByteArray} {i:Nat} {E:Int} {a:Nat} {w:World} (h:VS b s i E a w):w.frozen? ⟨b,3,none⟩=false:=Lib.frozen_of_heap h 3
theorem VS.drew {b:Nat} {s:ByteArray} {i:Nat} {E:Int} {a:Nat} {w:World} (h:VS b s i E a w) (n:Nat):VS b s i E a (w.drewN n):=h
theorem VS.set1 {b:Nat} {s:ByteArray} {i:Nat} {E:Int} {a:Nat} {w:World} (h:VS b s i E a w) (j:Nat):VS b s j E a (w.setCell ⟨b,1,none⟩ (.int .i64 (j:Int))):=by
 unfold VS at h ⊢;simp [World.setCell,Array.getElem?_modify,h]
theorem VS.set2 {b:Nat} {s:ByteArray} {i:Nat} {E:Int} {a:Nat} {w:World} (h:VS b s i E a w) (F:Int):VS b s i F a (w.setCell ⟨b,2,none⟩ (.int .i64 F)):=by
 unfold VS at h ⊢;simp [World.setCell,Array.getElem?_modify,h]
theorem VS.set3 {b:Nat} {s:ByteArray} {i:Nat} {E:Int} {a:Nat} {w:World} (h:VS b s i E a w) (c:Nat):VS b s i E c (w.setCell ⟨b,3,none⟩ (.int .i64 (c:Int))):=by
 unfold VS at h ⊢;simp [World.setCell,Array.getElem?_modify,h]
theorem fail_first (b:Nat) (s:ByteArray) (i:Nat) (a:Nat) (F:Int) (c:Nat) (w:World) (h:VS b s i 0 a w) :
  Calls Tryz.prog 58 #[.pointer (some ⟨b,0,none⟩),.int .i64 F,.int .i64 (c:Int)] w fun e w'=>e=.returned (.tuple #[])/\VS b s i F c w'/\w.grownBy w' (some b):=by
 have h2:=h.c2;have h3:=h.c3;have f2:=h.f2;have f3:=h.f3;have HR:Hd (VS b s i 0 a w):=h;clear h;go_enter Tryz.func58,Tryz.ntmps58;go_wp2
 go_end0
 exact ⟨rfl,(HR.o.set2 F).set3 c,gb_set (gb_set (gb_refl w _) _ _) _ _⟩
theorem fail_later (b:Nat) (s:ByteArray) (i:Nat) (E:Int) (hE:E ≠ 0) (a:Nat) (F:Int) (c:Nat) (w:World) (h:VS b s i E a w) :
  Calls Tryz.prog 58 #[.pointer (some ⟨b,0,none⟩),.int .i64 F,.int .i64 (c:Int)] w fun e w'=>e=.returned (.tuple #[])/\VS b s i E a w'/\w.grownBy w' (some b):=by
 have h2:=h.c2;have HR:Hd (VS b s i E a w):=h;have hn:(E == 0)=false:=by simpa using hE
 clear h hE;go_enter Tryz.func58,Tryz.ntmps58;go_wp2
 go_end0
 exact ⟨rfl,HR.o,gb_refl w _⟩
theorem must_yes (b:Nat) (s:ByteArray) (i:Nat) (E:Int) (a:Nat) (c:UInt8) (w:World) (hc:s.data.toList[i]?=some c) (h:VS b s i E a w) (hs:s.size < 2 ^ 62) :
  Calls Tryz.prog 56 #[.pointer (some ⟨b,0,none⟩),.int .u8 (c.toNat:Int)] w fun e w'=>e=.returned (.tuple #[])/\VS b s (i+1) E a w'/\w.grownBy w' (some b):=by
 have h0:=h.c0;have h1:=h.c1;have f1:=h.f1;have HR:Hd (VS b s i E a w):=h;clear h;have hlt:i < s.size:=by have:=(List.getElem?_eq_some_iff.1 hc).1;simpa using this
 rw [get_data s i hlt] at hc;have hc':s[i]=c:=Option.some.inj hc;clear hc;subst hc';have hd:decide ((s.size:Int)<=(i:Int))=false:=by simp;omega
 have hw:IntKind.i64.wrap ((i:Int)+1)=((i+1:Nat):Int):=by rw [IntKind.wrap_i64];omega
 go_enter Tryz.func56,Tryz.ntmps56;go_wp2;go_quiet (fail);go_wp2
 go_end0
 exact ⟨rfl,(HR.o.drew nq).set1 (i+1),gb_set (gb_drew (gb_refl w _) _) _ _⟩
theorem must_no (b:Nat) (s:ByteArray) (i:Nat) (a:Nat) (c:UInt8) (w:World) (hi:i<=s.size) (hc:¬ s.data.toList[i]?=some c) (h:VS b s i 0 a w) (hs:s.size < 2 ^ 62) :
  Calls Tryz.prog 56 #[.pointer (some ⟨b,0,none⟩),.int .u8 (c.toNat:Int)] w fun e w'=>e=.returned (.tuple #[])/\VS b s i 2 i w'/\w.grownBy w' (some b):=by
 have h0:=h.c0;have h1:=h.c1;have HR:Hd (VS b s i 0 a w):=h;clear h
 by_cases hlt:i < s.size
 ·rw [get_data s i hlt] at hc;have hne:s[i] ≠ c:=fun e=>hc (by rw [e])
  have hn:((s[i].toNat:Int) == (c.toNat:Int))=false:=by
   simp only [beq_eq_false_iff_ne,ne_eq];intro e;exact hne (UInt8.toNat_inj.1 (by omega))
  have hd:decide ((s.size:Int)<=(i:Int))=false:=by simp;omega
  have hm:((s[i].toNat:Int) != (c.toNat:Int))=true:=by rw [bne,hn];rfl
  clear hc hne;go_enter Tryz.func56,Tryz.ntmps56;go_wp2;go_quiet (fail);have e1:(w.drewN nq).cell? ⟨b,1,none⟩=some (.int .i64 (i:Int)):=h1;go_wp2_with (go_at_call 58;refine (fail_first b s i a 2 i _ (HR.o.drew _)).mono ?_);rintro e w1 ⟨rfl,hr,hg⟩;go_wp2
  (try simp only [Exit.inBlock,Exit.then])
  refine bodyPost_ret (results_none rfl _ _ _) rfl ?_;exact ⟨rfl,hr,gb_trans (gb_drew (gb_refl w _) _) hg⟩
 ·have hd:decide ((s.size:Int)<=(i:Int))=true:=by simp;omega
  clear hc;go_enter Tryz.func56,Tryz.ntmps56;go_wp2;go_quiet (fail);have e1:(w.drewN nq).cell? ⟨b,1,none⟩=some (.int .i64 (i:Int)):=h1;go_wp2_with (go_at_call 58;refine (fail_first b s i a 2 i _ (HR.o.drew _)).mono ?_);rintro e w1 ⟨rfl,hr,hg⟩;go_wp2
  (try simp only [Exit.inBlock,Exit.then])
  refine bodyPost_ret (results_none rfl _ _ _) rfl ?_;exact ⟨rfl,hr,gb_trans (gb_drew (gb_refl w _) _) hg⟩
end Go.Proofs.YticgahdffjnabaaGreatDoor
