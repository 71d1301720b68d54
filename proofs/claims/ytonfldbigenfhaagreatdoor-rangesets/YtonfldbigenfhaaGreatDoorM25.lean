import Derived.Test.YtonfldbigenfhaaGreatDoorM24
import Derived.Laws.AppendOwnNone
import Derived.OwnWalk
import Derived.Test.YtonfldbigenfhaaGreatDoorM06
import Derived.Test.YtonfldbigenfhaaGreatDoorM08
import Derived.Test.YtonfldbigenfhaaGreatDoorM04
namespace Go.Proofs.YtonfldbigenfhaaGreatDoor
open Go.RowKit
set_option linter.unusedVariables false
theorem psets_bad {l:List UInt8} {f i:Nat} {acc:List (List Te)} (h:¬ (pset l (l.length+1) (skipW l i) []).1=0):psets l (f+1) i acc=((pset l (l.length+1) (skipW l i) []).1,(pset l (l.length+1) (skipW l i) []).2.1,acc):=by
 have e:oneP l i=pset l (l.length+1) (skipW l i) []:=by unfold oneP after;rw [if_neg h]
 rw [psets,e,if_neg h]
theorem oneP_ok {l:List UInt8} {i:Nat} (h:(pset l (l.length+1) (skipW l i) []).1=0):oneP l i=if endsAt l (skipW l (pset l (l.length+1) (skipW l i) []).2.1)=true then (0,skipW l (pset l (l.length+1) (skipW l i) []).2.1,(pset l (l.length+1) (skipW l i) []).2.2) else (2,skipW l (pset l (l.length+1) (skipW l i) []).2.1,(pset l (l.length+1) (skipW l i) []).2.2):=by
 unfold oneP after;rw [if_pos h]
theorem psets_end {l:List UInt8} {f i:Nat} {acc:List (List Te)} (h:(pset l (l.length+1) (skipW l i) []).1=0) (hl:l.length<=skipW l (pset l (l.length+1) (skipW l i) []).2.1) :
  psets l (f+1) i acc=(0,skipW l (pset l (l.length+1) (skipW l i) []).2.1,acc++[(pset l (l.length+1) (skipW l i) []).2.2]):=by
 have he:endsAt l (skipW l (pset l (l.length+1) (skipW l i) []).2.1)=true:=by unfold endsAt;rw [decide_eq_true hl];rfl
 have e:=oneP_ok h
 rw [if_pos he] at e
 rw [psets,e,if_pos rfl]
 simp only []
 rw [if_pos hl]
theorem psets_txt {l:List UInt8} {f i:Nat} {acc:List (List Te)} (h:(pset l (l.length+1) (skipW l i) []).1=0) (hl:¬ l.length<=skipW l (pset l (l.length+1) (skipW l i) []).2.1) (hb:¬ barsAt l (skipW l (pset l (l.length+1) (skipW l i) []).2.1)=true) :
  psets l (f+1) i acc=(2,skipW l (pset l (l.length+1) (skipW l i) []).2.1,acc):=by
 have he:¬ endsAt l (skipW l (pset l (l.length+1) (skipW l i) []).2.1)=true:=by
  unfold endsAt;rw [decide_eq_false hl];simpa using hb
 have e:=oneP_ok h
 rw [if_neg he] at e
 rw [psets,e,if_neg (by simp)]
theorem psets_more {l:List UInt8} {f i:Nat} {acc:List (List Te)} (h:(pset l (l.length+1) (skipW l i) []).1=0) (hl:¬ l.length<=skipW l (pset l (l.length+1) (skipW l i) []).2.1) (hb:barsAt l (skipW l (pset l (l.length+1) (skipW l i) []).2.1)=true) :
  psets l (f+1) i acc=psets l f (skipW l (pset l (l.length+1) (skipW l i) []).2.1+2) (acc++[(pset l (l.length+1) (skipW l i) []).2.2]):=by
 have he:endsAt l (skipW l (pset l (l.length+1) (skipW l i) []).2.1)=true:=by unfold endsAt;rw [hb];simp
 have e:=oneP_ok h
 rw [if_pos he] at e
 rw [psets,e,if_pos rfl]
 simp only []
 rw [if_neg hl]
theorem own_cells {w:World} {base g:Nat} {e:TypeId} {size n cap:Nat} {xs:List Value} (h:w.ownsRow base e size (.slice (some ⟨g,0,none⟩) n cap) n xs):∀j u,xs[j]?=some u->w.cell? ((⟨g,0,none⟩:Addr).add j)=some u:=by
 intro j u hu
 rcases h.2 with ⟨h1,_⟩ | ⟨g',cap',cur,hv,hb,hc,h3,h4,h5,h6⟩
 ·cases h1
 ·simp only [Value.slice.injEq,Option.some.injEq,Addr.mk.injEq] at hv
  obtain ⟨⟨rfl,_,_⟩,_,_⟩:=hv
  rw [add_zero_off,cell_of_row w g j cur e (0,0) hc]
  rw [<-h6,List.getElem?_take] at hu
  split at hu
  ·simpa using hu
  ·cases hu
theorem news_all (L:List Sp):∀u ∈ L.flatMap spC,u.oneCell'=true:=by
 intro u hu
 obtain ⟨s,_,hs⟩:=List.mem_flatMap.1 hu
 exact news_one s u hs
theorem gb_rowb {w wa wb:World} {row:Option Nat} {b:Nat} (h:w.grownBy wa (some b)) (hg:wa.grownBy wb row) (hr:∀q,row=some q->w.heap.size<=q):w.grownBy wb (some b) :=
 ⟨hg.os.trans h.os,hg.tape.trans h.tape,hg.output.trans h.output,Nat.le_trans h.size hg.size,fun k hk hn=>(hg.block k (Nat.lt_of_lt_of_le hk h.size) (fun e=>by have:=hr k e.symm;omega)).trans (h.block k hk hn)⟩
theorem RS.growr {b:Nat} {s:ByteArray} {i:Nat} {w w':World} {row:Option Nat} (h:RS b s i w) (hg:w.grownBy w' row) (hn:some b ≠ row):RS b s i w':=by
 obtain ⟨t,h⟩:=h
 exact ⟨t,by rw [hg.block b ((Array.getElem?_eq_some_iff.1 h).1) hn];exact h⟩
theorem OS.far {w:World} {base:Nat} {sl:Value} {L:List Sp} (h:OS w base sl L):∀q,sl.ownBlock=some q->base<=q:=by
 intro q hq
 rcases h.2 with ⟨h1,_⟩ | ⟨g,cap,cur,hv,hb,_⟩
 ·rw [h1] at hq;cases hq
 ·rw [hv] at hq
  simp only [Value.ownBlock,Option.some.injEq] at hq
  omega
def SetsPost (b:Nat) (s:ByteArray) (R:Int × Nat × List (List Te)) (w:World) (e:Ending) (w':World):Prop :=
 ∃(o:Option Addr) (n c:Nat),e=.returned (.tuple #[.slice o n c,.int .i64 R.1])/\RS b s R.2.1 w'/\w.grownBy w' (some b)/\(R.1=0->∃L,OS w' w.heap.size (.slice o n c) L/\LOk L 70000/\Has L (admS R.2.2))
theorem has_none:Has [] (admS []):=fun v _=>rfl
theorem has_both {L M:List Sp} {S:List (List Te)} {ts:List Te} (h:Has L (admS S)) (h':Has M (admL ts)):Has (L++M) (admS (S++[ts])):=fun v hv=>by rw [holds_app,h v hv,h' v hv,admS_snoc]
set_option maxRecDepth 100000 in
set_option maxHeartbeats 1600000 in
theorem sets_any (b:Nat) (s:ByteArray) (w:World) (h:RS b s 0 w) (hs:s.size<=200) :
  Calls Tryz.prog 32 #[.pointer (some ⟨b,0,none⟩)] w (SetsPost b s (psets s.data.toList (s.data.toList.length+1) 0 []) w):=by
 obtain ⟨l,hl⟩:∃l,s.data.toList=l:=⟨_,rfl⟩
 have hll:l.length=s.size:=by rw [<-hl];simp
 have HLL:Hid (l.length=s.size/\s.size<=200):=⟨hll,hs⟩
 have CS:Hid (∀i w,i<=s.size->RS b s i w->Calls Tryz.prog 57 #[.pointer (some ⟨b,0,none⟩)] w (SetPost b s (pset l (l.length+1) (skipW l i) []) w)):=fun i w hi h=>by rw [<-hl];exact set_any b s i w hi h hs
 have CB:Hid (∀i w,i<=s.size->RS b s i w->Calls Tryz.prog 58 #[.pointer (some ⟨b,0,none⟩)] w fun e w'=>e=.returned (.bool (decide (i < skipW l i)))/\RS b s (skipW l i) w'/\w.grownBy w' (some b)):=fun i w hi h=>by rw [<-hl];exact blanks_any b s i w hi h (by omega)
 have CE:Hid (∀i w,RS b s i w->Calls Tryz.prog 59 #[.pointer (some ⟨b,0,none⟩)] w fun e w'=>e=.returned (.bool (decide (i=s.size)))/\∃n,w'=w.drewN n):=fun i w h=>ended_any b s i w h
 have CT:Hid (∀i w,i<=s.size->RS b s i w->Calls Tryz.prog 60 #[.pointer (some ⟨b,0,none⟩),.string ⟨#[124,124]⟩] w fun e w'=>e=.returned (.bool (barsAt l i))/\RS b s (if barsAt l i=true then i+2 else i) w'/\w.grownBy w' (some b)):=fun i w hi h=>by
  have:=take_any b s ⟨#[124,124]⟩ i w hi h (by omega) (by show 2 < _;decide)
  rw [show (ByteArray.mk #[124,124]).data.toList=[124,124] from rfl,prefix_two,hl] at this
  exact this
 have HSK:Hid (∀i,i<=s.size->i<=skipW l i/\skipW l i<=s.size):=fun i hi=>⟨skip_ge l i,by have:=skip_le l i (by rw [hll];exact hi);rw [hll] at this;exact this⟩
 have HSP:Hid (∀i,i<=s.size->(pset l (l.length+1) (skipW l i) []).1=0->i<=(pset l (l.length+1) (skipW l i) []).2.1/\(pset l (l.length+1) (skipW l i) []).2.1<=s.size):=fun i hi h0=>by
  have h1:=HSK.out i hi
  have h2:=pset_place l (l.length+1) (skipW l i) [] (by rw [hll];exact h1.2) h0
  exact ⟨by omega,by rw [<-hll];exact h2.2⟩
 have HI:Hid (RS b s 0 w):=h
 have HBb:Hid (b < w.heap.size):=by obtain ⟨t,h⟩:=h;exact (Array.getElem?_eq_some_iff.1 h).1
 rw [hl]
 obtain ⟨E0,J0,S0,hR⟩:∃E0 J0 S0,psets l (l.length+1) 0 []=(E0,J0,S0):=⟨_,_,_,rfl⟩
 have HR0:Hid (psets l (l.length+1) 0 []=(E0,J0,S0)):=hR
 rw [hR]
 obtain ⟨B,hB⟩:∃B,w.heap.size=B:=⟨_,rfl⟩
 have HB:Hid (w.heap.size=B/\b < B):=⟨hB,by rw [<-hB];exact HBb.out⟩
 clear hl hll hR h hs hB
 go_enter Tryz.func32,Tryz.ntmps32
 go_wp2
 go_loopw [4] (fun va wr=>∃(f j:Nat) (acc:List (List Te)) (L:List Sp),j<=s.size/\l.length < f+j/\acc.length<=j/\psets l f j acc=(E0,J0,S0)/\RS b s j wr/\OS wr B va L/\LOk L (300 * acc.length)/\Has L (admS acc)/\w.grownBy wr (some b)) (fun _ wr=>s.size - placeOf b wr)
 case atStart=>exact ⟨l.length+1,0,[],[],Nat.zero_le _,by omega,Nat.le_refl _,HR0.out,HI.out,OS.emp _ _,⟨rfl,fun s hs=>(by cases hs),Nat.le_refl _⟩,has_none,gb_refl _ _⟩
 case round =>
  obtain ⟨f,j,acc,L,hj,hf,ha,hps,hrs,hos,hlok,hhas,hg⟩:=hrel
  clear HI HR0
  obtain ⟨o,n0,c0,rfl⟩:=hos.slice
  obtain ⟨f,rfl⟩:∃f',f=f'+1:=by
   cases f with
   | zero=>have:=HLL.out.1;omega
   | succ f=>exact ⟨f,rfl⟩
  have HJ:Hid (j<=s.size):=hj
  have HF:Hid (l.length < f+1+j):=hf
  have HA:Hid (acc.length<=j):=ha
  have HPS:Hid (psets l (f+1) j acc=(E0,J0,S0)):=hps
  have HRS:Hid (RS b s j wr):=hrs
  have HPLA:Hid (placeOf b wr=j):=hrs.place
  have HOS:Hid (OS wr B (.slice o n0 c0) L):=hos
  have HLK:Hid (LOk L (300 * acc.length)):=hlok
  have HHS:Hid (Has L (admS acc)):=hhas
  have HG:Hid (w.grownBy wr (some b)):=hg
  clear hj hf ha hps hrs hos hlok hhas hg
  have CSJ:Hid (∀w,RS b s j w->Calls Tryz.prog 57 #[.pointer (some ⟨b,0,none⟩)] w (SetPost b s (pset l (l.length+1) (skipW l j) []) w)):=fun w h=>CS.out j w HJ.out h
  have HPJ:Hid ((pset l (l.length+1) (skipW l j) []).1=0->j<=(pset l (l.length+1) (skipW l j) []).2.1/\(pset l (l.length+1) (skipW l j) []).2.1<=s.size):=HSP.out j HJ.out
  have BAD:Hid (¬ (pset l (l.length+1) (skipW l j) []).1=0->psets l (f+1) j acc=((pset l (l.length+1) (skipW l j) []).1,(pset l (l.length+1) (skipW l j) []).2.1,acc)):=fun h=>psets_bad h
  have LAST:Hid ((pset l (l.length+1) (skipW l j) []).1=0->l.length<=skipW l (pset l (l.length+1) (skipW l j) []).2.1->psets l (f+1) j acc=(0,skipW l (pset l (l.length+1) (skipW l j) []).2.1,acc++[(pset l (l.length+1) (skipW l j) []).2.2])):=fun h h1=>psets_end h h1
  have TXT:Hid ((pset l (l.length+1) (skipW l j) []).1=0->¬ l.length<=skipW l (pset l (l.length+1) (skipW l j) []).2.1->¬ barsAt l (skipW l (pset l (l.length+1) (skipW l j) []).2.1)=true->psets l (f+1) j acc=(2,skipW l (pset l (l.length+1) (skipW l j) []).2.1,acc)):=fun h h1 h2=>psets_txt h h1 h2
  have MORE:Hid ((pset l (l.length+1) (skipW l j) []).1=0->¬ l.length<=skipW l (pset l (l.length+1) (skipW l j) []).2.1->barsAt l (skipW l (pset l (l.length+1) (skipW l j) []).2.1)=true->psets l (f+1) j acc=psets l f (skipW l (pset l (l.length+1) (skipW l j) []).2.1+2) (acc++[(pset l (l.length+1) (skipW l j) []).2.2])):=fun h h1 h2=>psets_more h h1 h2
  obtain ⟨E,J,ts,hR⟩:∃E J ts,pset l (l.length+1) (skipW l j) []=(E,J,ts):=⟨_,_,_,rfl⟩
  rw [hR] at CSJ HPJ BAD LAST TXT MORE
  simp only [] at HPJ BAD LAST TXT MORE
  rw [HPS.out] at BAD LAST TXT MORE
  clear hR
  go_wp2_with (first | (go_at_call 57;refine (CSJ.out _ HRS.out).mono ?_))
  rintro e u1 ⟨o1,n1,c1,rfl,hr,hg,hok⟩
  replace HRS:Hid (RS b s J u1):=hr
  replace HOS:Hid (OS u1 B (.slice o n0 c0) L):=HOS.out.growb hg HB.out.2
  have HBW:Hid (B<=wr.heap.size):=by have:=HG.out.size;rw [HB.out.1] at this;exact this
  replace HG:Hid (w.grownBy u1 (some b)):=gb_trans HG.out hg
  have HOK:Hid (E=0->∃L,OS u1 B (.slice o1 n1 c1) L/\LOk L 300/\Has L (admL ts)):=fun h0=>by
   obtain ⟨L1,h1,h2,h3⟩:=hok h0
   exact ⟨L1,h1.base HBW.out,h2,h3⟩
  clear hr hg hok
  cases hz:(E == 0) with
  | false =>
   have hE0:¬ E=0:=by simpa using hz
   have HB2:Hid ((E0,J0,S0)=(E,J,acc)):=BAD.out hE0
   have HE0:Hid (¬ E=0):=hE0
   clear hE0
   go_wp2
   refine bodyPost_ret (results_tmp2 (t:=2) (u:=3) rfl _ _ _) rfl ?_
   rw [HB2.out]
   exact ⟨_,_,_,rfl,HRS.out,HG.out,fun h=>absurd h HE0.out⟩
  | true =>
   have hE0:E=0:=by simpa using hz
   subst hE0
   obtain ⟨hp1,hp2⟩:=HPJ.out rfl
   have HP:Hid (j<=J/\J<=s.size):=⟨hp1,hp2⟩
   obtain ⟨L1,ho1,hl1,hh1⟩:=HOK.out rfl
   have HO1:Hid (OS u1 B (.slice o1 n1 c1) L1):=ho1
   have HN1:Hid (n1=L1.length/\n0=L.length):=by
    constructor
    ·rcases ho1.2 with ⟨h1,h2⟩ | ⟨g,cap,cur,hv,_⟩
     ·cases h1;exact h2.symm
     ·cases hv;rfl
    ·rcases HOS.out.2 with ⟨h1,h2⟩ | ⟨g,cap,cur,hv,_⟩
     ·cases h1;exact h2.symm
     ·cases hv;rfl
   have HLN:Hid (LOk (L++L1) (300 * (acc++[ts]).length)):=by
    have:=HLK.out.app hl1
    refine this.mono ?_
    rw [List.length_append];simp;omega
   have HHN:Hid (Has (L++L1) (admS (acc++[ts]))):=has_both HHS.out hh1
   have CBJ:Hid (∀w,RS b s J w->Calls Tryz.prog 58 #[.pointer (some ⟨b,0,none⟩)] w fun e w'=>e=.returned (.bool (decide (J < skipW l J)))/\RS b s (skipW l J) w'/\w.grownBy w' (some b)):=fun w h=>CB.out J w HP.out.2 h
   have HKK:Hid (J<=skipW l J/\skipW l J<=s.size):=HSK.out J HP.out.2
   obtain ⟨K,hK⟩:∃K,skipW l J=K:=⟨_,rfl⟩
   rw [hK] at CBJ HKK LAST TXT MORE
   clear hp1 hp2 hK hz ho1 hl1 hh1 HOK
   have hinfo:=infoSp
   obtain ⟨i1,hj0,hjj⟩:=Option.map_eq_some_iff.1 hinfo
   have hy0:i1.zero=some (.agg #[.int .i64 0,.int .i64 0,.int .i64 0,.string ⟨#[]⟩,.string ⟨#[]⟩,.int .i64 0,.int .i64 0,.int .i64 0,.string ⟨#[]⟩,.string ⟨#[]⟩,.bool false]):=congrArg (·.1) hjj
   have hy1:i1.size=11:=congrArg (·.2.1) hjj
   have hyb:i1.bytes=120:=congrArg (·.2.2) hjj
   clear hjj hinfo
   have HLL2:Hid (L.length+L1.length<=70000):=by
    have h1:=HLN.out.ln
    have h2:=HA.out
    have h3:=HJ.out
    have h4:=HLL.out.2
    rw [List.length_append,List.length_append] at h1
    show _<=_
    simp at h1;omega
   have hfm:=HO1.out.2
   rcases hfm with ⟨h1,h2⟩ | ⟨g,cap,cur,hv,_⟩
   ·simp only [Value.slice.injEq] at h1
    obtain ⟨rfl,rfl,rfl⟩:=h1
    have hL1:L1=[]:=List.length_eq_zero_iff.1 h2
    have HON:Hid (OS u1 B (.slice o n0 c0) (L++L1)):=by show OS u1 B _ _;rw [hL1,List.append_nil];exact HOS.out
    clear h2 hL1
    go_wp2_with (first | (at_builtin;refine wpList_append_own_none rfl _ _ 22 rfl B 37 i1 11 Tryz.underlying22 hj0 _ _ _ rfl HOS.out rfl ?_))
    clear hj0 hy0 hy1 hyb
    obtain ⟨o2,n2,c2,hva⟩:=HON.out.slice
    rw [hva] at HON
    try rw [hva]
    clear hva
    go_wp2_with (first | (go_at_call 58;refine (CBJ.out _ HRS.out).mono ?_))
    rintro e u3 ⟨rfl,hr,hg⟩
    replace HRS:Hid (RS b s K u3):=hr
    replace HON:Hid (OS u3 B (.slice o2 n2 c2) (L++L1)):=HON.out.growb hg HB.out.2
    replace HG:Hid (w.grownBy u3 (some b)):=gb_trans HG.out hg
    clear hr hg
    have CEK:Hid (∀w,RS b s K w->Calls Tryz.prog 59 #[.pointer (some ⟨b,0,none⟩)] w fun e w'=>e=.returned (.bool (decide (K=s.size)))/\∃n,w'=w.drewN n):=fun w h=>CE.out K w h
    have CTK:Hid (∀w,RS b s K w->Calls Tryz.prog 60 #[.pointer (some ⟨b,0,none⟩),.string ⟨#[124,124]⟩] w fun e w'=>e=.returned (.bool (barsAt l K))/\RS b s (if barsAt l K=true then K+2 else K) w'/\w.grownBy w' (some b)):=fun w h=>CT.out K w HKK.out.2 h
    cases hend:decide (K=s.size) with
    | true =>
     rw [hend] at CEK
     have hke:=of_decide_eq_true hend
     obtain ⟨rfl,rfl,rfl⟩:E0=0/\J0=K/\S0=acc++[ts]:=by have:=LAST.out (by first | trivial | rfl) (by have:=HLL.out.1;omega);simpa using this
     clear hend hke
     go_wp2_with (first | (go_at_call 59;refine (CEK.out _ HRS.out).mono ?_))
     rintro e u4 ⟨rfl,n,hn⟩
     replace HRS:Hid (RS b s J0 u4):=by show RS b s J0 u4;rw [hn];exact HRS.out.drew n
     replace HON:Hid (OS u4 B (.slice o2 n2 c2) (L++L1)):=by show OS u4 B _ _;rw [hn];exact HON.out
     replace HG:Hid (w.grownBy u4 (some b)):=by show w.grownBy u4 (some b);rw [hn];exact gb_drew HG.out n
     clear hn
     go_wp2
     exact bodyPost_ret (results_tmp2 (t:=2) (u:=3) rfl _ _ _) rfl ⟨_,_,_,rfl,HRS.out,HG.out,fun _=>⟨L++L1,by rw [HB.out.1];exact HON.out,HLN.out.mono (by rw [List.length_append];have h2:=HA.out;have h3:=HJ.out;have h4:=HLL.out.2;simp;omega),HHN.out⟩⟩
    | false =>
     rw [hend] at CEK
     have HNE:Hid (¬ l.length<=K):=by show ¬ _;have:=of_decide_eq_false hend;have:=HLL.out.1;have:=HKK.out.2;omega
     clear hend
     go_wp2_with (first | (go_at_call 59;refine (CEK.out _ HRS.out).mono ?_))
     rintro e u4 ⟨rfl,n,hn⟩
     replace HRS:Hid (RS b s K u4):=by show RS b s K u4;rw [hn];exact HRS.out.drew n
     replace HON:Hid (OS u4 B (.slice o2 n2 c2) (L++L1)):=by show OS u4 B _ _;rw [hn];exact HON.out
     replace HG:Hid (w.grownBy u4 (some b)):=by show w.grownBy u4 (some b);rw [hn];exact gb_drew HG.out n
     clear hn
     cases hbar:barsAt l K with
     | true =>
      rw [hbar] at CTK
      have CTY:Hid (∀w,RS b s K w->Calls Tryz.prog 60 #[.pointer (some ⟨b,0,none⟩),.string ⟨#[124,124]⟩] w fun e w'=>e=.returned (.bool true)/\RS b s (K+2) w'/\w.grownBy w' (some b)):=CTK.out
      have HNX:Hid ((E0,J0,S0)=psets l f (K+2) (acc++[ts])):=MORE.out (by first | trivial | rfl) HNE.out hbar
      have HK2:Hid (K+2<=s.size):=by have:=bars_lt l K hbar;rw [HLL.out.1] at this;exact this
      clear hbar CTK
      go_wp2_with (first | (go_at_call 60;refine (CTY.out _ HRS.out).mono ?_))
      rintro e u5 ⟨rfl,hr,hg⟩
      replace HRS:Hid (RS b s (K+2) u5):=hr
      replace HON:Hid (OS u5 B (.slice o2 n2 c2) (L++L1)):=HON.out.growb hg HB.out.2
      replace HG:Hid (w.grownBy u5 (some b)):=gb_trans HG.out hg
      clear hr hg
      go_wp2
      go_roundw
      case rel=>exact ⟨f,K+2,acc++[ts],L++L1,HK2.out,by have h1:=HF.out;have h2:=HP.out.1;have h3:=HKK.out.1;omega,by rw [List.length_append];have h1:=HA.out;have h2:=HP.out.1;have h3:=HKK.out.1;simp;omega,HNX.out.symm,HRS.out,HON.out,HLN.out,HHN.out,HG.out⟩
      case measure =>
       have e1:=HPLA.out
       have e2:=HRS.out.place
       rw [e1]
       exact Nat.lt_of_le_of_lt (Nat.le_of_eq (congrArg (s.size - ·) e2)) (by have h1:=HP.out;have h2:=HKK.out;have h3:=HK2.out;omega)
     | false =>
      rw [hbar] at CTK
      have CTN:Hid (∀w,RS b s K w->Calls Tryz.prog 60 #[.pointer (some ⟨b,0,none⟩),.string ⟨#[124,124]⟩] w fun e w'=>e=.returned (.bool false)/\RS b s K w'/\w.grownBy w' (some b)):=CTK.out
      have HNX:Hid ((E0,J0,S0)=(2,K,acc)):=TXT.out (by first | trivial | rfl) HNE.out (by rw [hbar];decide)
      clear hbar CTK
      go_wp2_with (first | (go_at_call 60;refine (CTN.out _ HRS.out).mono ?_))
      rintro e u5 ⟨rfl,hr,hg⟩
      replace HRS:Hid (RS b s K u5):=hr
      replace HG:Hid (w.grownBy u5 (some b)):=gb_trans HG.out hg
      clear hr hg
      go_wp2
      refine bodyPost_ret (results_tmp2 (t:=2) (u:=3) rfl _ _ _) rfl ?_
      rw [HNX.out]
      exact ⟨_,_,_,rfl,HRS.out,HG.out,fun h=>absurd h (by simp)⟩
   ·simp only [Value.slice.injEq] at hv
    obtain ⟨rfl,hn1,rfl⟩:=hv
    subst hn1
    go_wp2_with (first | (at_builtin;refine wpList_append_own _ rfl _ _ 22 rfl B 37 i1 _ 11 120 Tryz.underlying22 hj0 hy0 hy1 hyb rfl (by decide) _ _ _ rfl HOS.out _ _ _ (L1.flatMap spC) rfl HO1.out.1 (own_cells HO1.out) (news_all L1) (by unfold maxLen;have:=HLL2.out;omega) (by have:=HLL2.out;omega) (by have h1:=HG.out.size;rw [HB.out.1] at h1;exact h1) ?_;intro v' u2 hown hgrow _))
    have HON:Hid (OS u2 B v' (L++L1)):=by show OS u2 B v' _;unfold OS;rw [List.length_append,List.flatMap_append];exact hown
    have hfar:=HOS.out.far
    replace HRS:Hid (RS b s J u2):=HRS.out.growr hgrow (fun e=>by have:=hfar b e.symm;have:=HB.out.2;omega)
    replace HG:Hid (w.grownBy u2 (some b)):=gb_rowb HG.out hgrow (fun q hq=>by rw [HB.out.1];exact hfar q hq)
    clear hown hgrow hfar hj0 hy0 hy1 hyb
    obtain ⟨o2,n2,c2,hva⟩:=HON.out.slice
    rw [hva] at HON
    try rw [hva]
    clear hva
    go_wp2_with (first | (go_at_call 58;refine (CBJ.out _ HRS.out).mono ?_))
    rintro e u3 ⟨rfl,hr,hg⟩
    replace HRS:Hid (RS b s K u3):=hr
    replace HON:Hid (OS u3 B (.slice o2 n2 c2) (L++L1)):=HON.out.growb hg HB.out.2
    replace HG:Hid (w.grownBy u3 (some b)):=gb_trans HG.out hg
    clear hr hg
    have CEK:Hid (∀w,RS b s K w->Calls Tryz.prog 59 #[.pointer (some ⟨b,0,none⟩)] w fun e w'=>e=.returned (.bool (decide (K=s.size)))/\∃n,w'=w.drewN n):=fun w h=>CE.out K w h
    have CTK:Hid (∀w,RS b s K w->Calls Tryz.prog 60 #[.pointer (some ⟨b,0,none⟩),.string ⟨#[124,124]⟩] w fun e w'=>e=.returned (.bool (barsAt l K))/\RS b s (if barsAt l K=true then K+2 else K) w'/\w.grownBy w' (some b)):=fun w h=>CT.out K w HKK.out.2 h
    cases hend:decide (K=s.size) with
    | true =>
     rw [hend] at CEK
     have hke:=of_decide_eq_true hend
     obtain ⟨rfl,rfl,rfl⟩:E0=0/\J0=K/\S0=acc++[ts]:=by have:=LAST.out (by first | trivial | rfl) (by have:=HLL.out.1;omega);simpa using this
     clear hend hke
     go_wp2_with (first | (go_at_call 59;refine (CEK.out _ HRS.out).mono ?_))
     rintro e u4 ⟨rfl,n,hn⟩
     replace HRS:Hid (RS b s J0 u4):=by show RS b s J0 u4;rw [hn];exact HRS.out.drew n
     replace HON:Hid (OS u4 B (.slice o2 n2 c2) (L++L1)):=by show OS u4 B _ _;rw [hn];exact HON.out
     replace HG:Hid (w.grownBy u4 (some b)):=by show w.grownBy u4 (some b);rw [hn];exact gb_drew HG.out n
     clear hn
     go_wp2
     exact bodyPost_ret (results_tmp2 (t:=2) (u:=3) rfl _ _ _) rfl ⟨_,_,_,rfl,HRS.out,HG.out,fun _=>⟨L++L1,by rw [HB.out.1];exact HON.out,HLN.out.mono (by rw [List.length_append];have h2:=HA.out;have h3:=HJ.out;have h4:=HLL.out.2;simp;omega),HHN.out⟩⟩
    | false =>
     rw [hend] at CEK
     have HNE:Hid (¬ l.length<=K):=by show ¬ _;have:=of_decide_eq_false hend;have:=HLL.out.1;have:=HKK.out.2;omega
     clear hend
     go_wp2_with (first | (go_at_call 59;refine (CEK.out _ HRS.out).mono ?_))
     rintro e u4 ⟨rfl,n,hn⟩
     replace HRS:Hid (RS b s K u4):=by show RS b s K u4;rw [hn];exact HRS.out.drew n
     replace HON:Hid (OS u4 B (.slice o2 n2 c2) (L++L1)):=by show OS u4 B _ _;rw [hn];exact HON.out
     replace HG:Hid (w.grownBy u4 (some b)):=by show w.grownBy u4 (some b);rw [hn];exact gb_drew HG.out n
     clear hn
     cases hbar:barsAt l K with
     | true =>
      rw [hbar] at CTK
      have CTY:Hid (∀w,RS b s K w->Calls Tryz.prog 60 #[.pointer (some ⟨b,0,none⟩),.string ⟨#[124,124]⟩] w fun e w'=>e=.returned (.bool true)/\RS b s (K+2) w'/\w.grownBy w' (some b)):=CTK.out
      have HNX:Hid ((E0,J0,S0)=psets l f (K+2) (acc++[ts])):=MORE.out (by first | trivial | rfl) HNE.out hbar
      have HK2:Hid (K+2<=s.size):=by have:=bars_lt l K hbar;rw [HLL.out.1] at this;exact this
      clear hbar CTK
      go_wp2_with (first | (go_at_call 60;refine (CTY.out _ HRS.out).mono ?_))
      rintro e u5 ⟨rfl,hr,hg⟩
      replace HRS:Hid (RS b s (K+2) u5):=hr
      replace HON:Hid (OS u5 B (.slice o2 n2 c2) (L++L1)):=HON.out.growb hg HB.out.2
      replace HG:Hid (w.grownBy u5 (some b)):=gb_trans HG.out hg
      clear hr hg
      go_wp2
      go_roundw
      case rel=>exact ⟨f,K+2,acc++[ts],L++L1,HK2.out,by have h1:=HF.out;have h2:=HP.out.1;have h3:=HKK.out.1;omega,by rw [List.length_append];have h1:=HA.out;have h2:=HP.out.1;have h3:=HKK.out.1;simp;omega,HNX.out.symm,HRS.out,HON.out,HLN.out,HHN.out,HG.out⟩
      case measure =>
       have e1:=HPLA.out
       have e2:=HRS.out.place
       rw [e1]
       exact Nat.lt_of_le_of_lt (Nat.le_of_eq (congrArg (s.size - ·) e2)) (by have h1:=HP.out;have h2:=HKK.out;have h3:=HK2.out;omega)
     | false =>
      rw [hbar] at CTK
      have CTN:Hid (∀w,RS b s K w->Calls Tryz.prog 60 #[.pointer (some ⟨b,0,none⟩),.string ⟨#[124,124]⟩] w fun e w'=>e=.returned (.bool false)/\RS b s K w'/\w.grownBy w' (some b)):=CTK.out
      have HNX:Hid ((E0,J0,S0)=(2,K,acc)):=TXT.out (by first | trivial | rfl) HNE.out (by rw [hbar];decide)
      clear hbar CTK
      go_wp2_with (first | (go_at_call 60;refine (CTN.out _ HRS.out).mono ?_))
      rintro e u5 ⟨rfl,hr,hg⟩
      replace HRS:Hid (RS b s K u5):=hr
      replace HG:Hid (w.grownBy u5 (some b)):=gb_trans HG.out hg
      clear hr hg
      go_wp2
      refine bodyPost_ret (results_tmp2 (t:=2) (u:=3) rfl _ _ _) rfl ?_
      rw [HNX.out]
      exact ⟨_,_,_,rfl,HRS.out,HG.out,fun h=>absurd h (by simp)⟩
open Go.RowKit
def ParsePost (R:Int × Nat × List (List Te)) (w:World) (e:Ending) (w':World):Prop :=
 ∃(o:Option Addr) (n c:Nat),e=.returned (.tuple #[.slice o n c,.int .i64 R.1,.int .i64 (R.2.1:Int)])/\w.grownBy w' none/\(¬ R.1=0->Value.slice o n c=.slice none 0 0) ∧
  (R.1=0->∃T,OS w' w.heap.size (.slice o n c) (outs T)/\LOk (outs T) 70000/\NT T 2/\Has (outs T) (admS R.2.2))
theorem range_sets (l:List UInt8) (h:¬ 200 < l.length):((psets l (l.length+1) 0 []).1=0->rdRange l=(0,0,(psets l (l.length+1) 0 []).2.2))/\(¬ (psets l (l.length+1) 0 []).1=0->rdRange l=((psets l (l.length+1) 0 []).1,(psets l (l.length+1) 0 []).2.1,[])):=by
 obtain ⟨h1,h2,h3⟩:=sets_same l (l.length+1) 0 [] (Nat.zero_le _)
 unfold rdRange
 rw [if_neg h]
 constructor
 ·intro h0
  rw [if_pos (h1.symm.trans h0),h3 h0]
 ·intro h0
  rw [if_neg (fun e=>h0 (h1.trans e)),h1,h2]
set_option maxRecDepth 100000 in
set_option maxHeartbeats 800000 in
theorem rparse_any (s:ByteArray) (w:World) (hs:s.size < 2 ^ 62) :
  Calls Tryz.prog 11 #[.string s] w (ParsePost (rdRange s.data.toList) w):=by
 by_cases h200:200 < s.size
 ·have hR:rdRange s.data.toList=(1,0,[]):=by unfold rdRange;rw [if_pos (by simpa using h200)]
  rw [hR]
  clear hR
  go_enter Tryz.func11,Tryz.ntmps11
  go_wp2
  exact bodyPost_ret (results_tmp3 (t:=2) (u:=3) (v:=4) rfl _ _ _) rfl ⟨_,_,_,rfl,gb_refl _ _,fun _=>rfl,fun h=>absurd h (by simp)⟩
 ·have hR:=range_sets s.data.toList (by simpa using h200)
  have CS:Hid (∀b w,RS b s 0 w->Calls Tryz.prog 32 #[.pointer (some ⟨b,0,none⟩)] w (SetsPost b s (psets s.data.toList (s.data.toList.length+1) 0 []) w)):=fun b w h=>sets_any b s w h (by omega)
  have CN:Hid (∀(sl:Value) (L:List Sp) (w:World),SpS w sl L->LOk L 70000->Calls Tryz.prog 33 #[sl] w (TOst (holdsL L) 70000 w)):=fun sl L w h1 h2=>oNormal sl L 70000 w h1 h2 (by omega)
  obtain ⟨E,J,S,hP⟩:∃E J S,psets s.data.toList (s.data.toList.length+1) 0 []=(E,J,S):=⟨_,_,_,rfl⟩
  rw [hP] at CS hR
  have HR:Hid ((E=0->rdRange s.data.toList=(0,0,S))/\(¬ E=0->rdRange s.data.toList=(E,J,[]))):=hR
  obtain ⟨R,hRR⟩:∃R,rdRange s.data.toList=R:=⟨_,rfl⟩
  rw [hRR] at HR ⊢
  clear hR hP hRR hs
  go_enter Tryz.func11,Tryz.ntmps11
  go_wp2_with (first | (go_at_call 32;refine (CS.out _ _ ⟨_,heap_alloc_new w _⟩).mono ?_))
  rintro e w1 ⟨o,n,c,rfl,hr,hg,hok⟩
  obtain ⟨A,hA⟩:∃A,w.heap.size=A:=⟨_,rfl⟩
  have HG:Hid (w.grownBy w1 none):=gb_own hg
  have hsz:w.heap.size<=(w.alloc (.cells #[.string s,.int .i64 0] 65)).heap.size:=by simp
  have HOK:Hid (E=0->∃L,OS w1 w.heap.size (.slice o n c) L/\LOk L 70000/\Has L (admS S)):=fun h=>by
   obtain ⟨L,h1,h2,h3⟩:=hok h
   exact ⟨L,h1.base hsz,h2,h3⟩
  rw [hA] at hr
  have HR1:Hid (RS A s J w1):=hr
  have HA:Hid (w.heap.size=A):=hA
  try rw [hA]
  clear hA hr hg hok hsz
  cases hz:(E == 0) with
  | false =>
   have hE0:¬ E=0:=by simpa using hz
   have HE0:Hid (¬ E=0):=hE0
   have e1:=HR1.out.c1
   clear hE0
   go_wp2
   go_quiet (fail)
   go_wp2
   refine bodyPost_ret (results_tmp3 (t:=2) (u:=3) (v:=4) rfl _ _ _) rfl ?_
   rw [HR.out.2 HE0.out]
   exact ⟨_,_,_,rfl,gb_drew HG.out _,fun _=>rfl,fun h=>absurd h HE0.out⟩
  | true =>
   have hE0:E=0:=by simpa using hz
   subst hE0
   obtain ⟨L,ho,hl,hh⟩:=HOK.out rfl
   have CNL:Hid (Calls Tryz.prog 33 #[.slice o n c] w1 (TOst (holdsL L) 70000 w1)):=CN.out _ L w1 ho.sps hl
   have HH:Hid (Has L (admS S)):=hh
   have HRR:Hid (R=(0,0,S)):=HR.out.1 rfl
   clear ho hl hh hz HOK HR
   go_wp2_with (first | (go_at_call 33;refine CNL.out.mono ?_))
   rintro e w2 ⟨hg,o',n',c',T,rfl,hos,hlk,hnt,hh⟩
   have HF:Hid (w.grownBy w2 none/\OS w2 w.heap.size (.slice o' n' c') (outs T)/\LOk (outs T) 70000/\NT T 2/\Has (outs T) (admS S)) :=
    ⟨gb_trans HG.out hg,hos.base HG.out.size,hlk,hnt,fun v hv=>by rw [hh];exact HH.out v hv⟩
   clear hg hos hlk hnt hh
   go_wp2
   refine bodyPost_ret (results_tmp3 (t:=2) (u:=3) (v:=4) rfl _ _ _) rfl ?_
   rw [HRR.out]
   exact ⟨_,_,_,rfl,HF.out.1,fun h=>absurd rfl h,fun _=>⟨T,HF.out.2.1,HF.out.2.2.1,HF.out.2.2.2.1,HF.out.2.2.2.2⟩⟩
open Go.RowKit
set_option maxHeartbeats 800000 in
theorem plain_any (v1 v2 v3:Int) (v4 v5:ByteArray) (w:World) :
  Calls Tryz.prog 95 #[.agg #[.int .i64 v1,.int .i64 v2,.int .i64 v3,.string v4,.string v5]] w fun e w'=>e=.returned (.agg #[.int .i64 v1,.int .i64 v2,.int .i64 v3,.string v4,.string ⟨#[]⟩])/\w.grownBy w' none:=by
 go_enter Tryz.func95,Tryz.ntmps95
 go_wp2
 refine bodyPost_ret (results_cell_row rfl _ _ (w.heap.size+1) 39 #[.int .i64 v1,.int .i64 v2,.int .i64 v3,.string v4,.string ⟨#[]⟩] (0,0) _ rfl ?_ Tryz.underlying39 rfl (by kernel_rfl)) rfl ⟨rfl,gb_alloc (gb_alloc (gb_refl w none) _) _⟩
 have:=heap_alloc_new (w.alloc (.cells #[.int .i64 v1,.int .i64 v2,.int .i64 v3,.string v4,.string v5] 39)) (.cells #[.int .i64 v1,.int .i64 v2,.int .i64 v3,.string v4,.string ⟨#[]⟩] 39)
 rw [show (w.alloc (.cells #[.int .i64 v1,.int .i64 v2,.int .i64 v3,.string v4,.string v5] 39)).heap.size=w.heap.size+1 by simp] at this
 exact this
def vC (t:V):List Value:=[.int .i64 t.major,.int .i64 t.minor,.int .i64 t.patch,.string ⟨t.pre.toArray⟩,.string ⟨#[]⟩]
def VAt (w:World) (p:Addr) (t:V):Prop:=w.cell? p=some (.int .i64 t.major)/\w.cell? ⟨p.block,p.off+1,none⟩=some (.int .i64 t.minor)/\w.cell? ⟨p.block,p.off+2,none⟩=some (.int .i64 t.patch)/\w.cell? ⟨p.block,p.off+3,none⟩=some (.string ⟨t.pre.toArray⟩)/\w.cell? ⟨p.block,p.off+4,none⟩=some (.string ⟨#[]⟩)
theorem VAt.grow {w w':World} {p:Addr} {t:V} (h:VAt w p t) (hg:w.grownBy w' none):VAt w' p t :=
 ⟨hg.cell h.1 (by simp),hg.cell h.2.1 (by simp),hg.cell h.2.2.1 (by simp),hg.cell h.2.2.2.1 (by simp),hg.cell h.2.2.2.2 (by simp)⟩
def VsAt (w:World) (a:Addr) (l:List V):Prop:=∀i (hi:i < l.length),VAt w (a.add (i * 5)) l[i]
theorem VsAt.grow {w w':World} {a:Addr} {l:List V} (h:VsAt w a l) (hg:w.grownBy w' none):VsAt w' a l:=fun i hi=>(h i hi).grow hg
theorem infoV:(Tryz.prog.info? 39).map (fun i=>(i.zero,i.size,i.bytes))=some (some (.agg #[.int .i64 0,.int .i64 0,.int .i64 0,.string ⟨#[]⟩,.string ⟨#[]⟩]),5,56):=by kernel_rfl
theorem ins_step (v d:V) (r:List V) (O l:List V) (b:Bool) (h:O++(if b=true then d :: r else insV v (d :: r))=insV v l) :
  (b=true->(O++[d])++r=insV v l) ∧
  (b=false->verC v d=0->(O++[d])++r=insV v l) ∧
  (b=false->verC v d < 0->((O++[v])++[d])++r=insV v l) ∧
  (b=false->¬ verC v d=0->¬ verC v d < 0->(O++[d])++insV v r=insV v l):=by
 refine ⟨fun hb=>?_,fun hb h0=>?_,fun hb h0=>?_,fun hb h0 h1=>?_⟩
 ·rw [if_pos hb] at h;rw [<-h];simp
 ·rw [hb,if_neg (by decide),insV,if_pos h0] at h;rw [<-h];simp
 ·rw [hb,if_neg (by decide),insV,if_neg (by omega),if_pos h0] at h;rw [<-h];simp
 ·rw [hb,if_neg (by decide),insV,if_neg h0,if_neg h1] at h;rw [<-h];simp
end Go.Proofs.YtonfldbigenfhaaGreatDoor
