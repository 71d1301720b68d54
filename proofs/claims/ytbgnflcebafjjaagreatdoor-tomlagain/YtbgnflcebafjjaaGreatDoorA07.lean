import Derived.Test.YtbgnflcebafjjaaGreatDoorA01
import Derived.Test.YtbgnflcebafjjaaGreatDoorA06
import Derived.Test.YtbgnflcebafjjaaGreatDoorA03
import Derived.Below
import Derived.Lib.ConvBytes
import Derived.Shelf.Strconv.Clone
import Derived.Test.YtbgnflcebafjjaaGreatDoorProg
import Derived.Test.YtbgnflcebafjjaaGreatDoorA05
import Derived.Laws.ResultCell
namespace Go.Proofs.YtbgnflcebafjjaaGreatDoor
set_option linter.unusedVariables false
structure Jt (ns:List Tn) (own:List Nat) (t:Nat):Prop where
 wf:WF ns own
 wt:WT ns
 lt:t < ns.length
 kd:kdAt ns t=0
theorem kdAt_lt {ns:List Tn} {t:Nat} {z:Int} (h:kdAt ns t=z) (hz:0<=z):t < ns.length:=by
 apply Classical.byContradiction
 intro hn
 unfold kdAt at h
 rw [List.getElem?_eq_none (by omega)] at h
 simp only [] at h
 omega
theorem wt_add (ns:List Tn) (own:List Nat) (W:WF ns own) (up:Nat) (n:Tn) (hu:up < ns.length) (h:WT ns) (h1:¬ n.kd=2) (h2:¬ kdAt ns up=2\/n.kd=0):WT (addN ns up n):=by
 intro q hq
 rw [kdAt_addN ns up n hu] at hq
 by_cases hn:q=ns.length
 ·rw [if_pos hn] at hq;exact absurd hq h1
 ·rw [if_neg hn] at hq
  obtain ⟨a,b⟩:=h q hq
  rw [ksAt_addN ns up n hu,if_neg hn]
  by_cases hqu:q=up
  ·subst hqu
   rw [if_pos rfl]
   refine ⟨by simp,fun x hx=>?_⟩
   rw [kdAt_addN ns q n hu]
   rcases List.mem_append.1 hx with hx | hx
   ·have:=W.lt _ _ hx
    rw [if_neg (by omega)]
    exact b x hx
   ·rw [if_pos (by simpa using hx)]
    rcases h2 with h2 | h2
    ·exact absurd hq h2
    ·exact h2
  ·rw [if_neg hqu]
   refine ⟨a,fun x hx=>?_⟩
   have:=W.lt _ _ hx
   rw [kdAt_addN ns up n hu,if_neg (by omega)]
   exact b x hx
theorem jt_add {ns:List Tn} {own:List Nat} {t:Nat} (J:Jt ns own t) (n:Tn) (hn:n.ks=[]) (h0:n.kd=0):Jt (addN ns t n) own ns.length:=by
 refine ⟨wf_add ns own t n hn J.lt J.wf,wt_add ns own J.wf t n J.lt J.wt (by rw [h0];decide) (Or.inr h0),by rw [addN_len];omega,?_⟩
 rw [kdAt_addN ns t n J.lt,if_pos rfl];exact h0
theorem stp_ok {ns ns':List Tn} {own:List Nat} {t t' p:Nat} {k:List UInt8} (J:Jt ns own t) (h:stp ns t k p=.ok (t',ns')):Jt ns' own t'/\ns.length<=ns'.length/\ns'.length<=ns.length+1:=by
 unfold stp at h
 cases hq:kidO ns t k with
 | none =>
  rw [hq] at h
  cases h
  exact ⟨jt_add J _ rfl rfl,by rw [addN_len];omega,by rw [addN_len];omega⟩
 | some q =>
  rw [hq] at h
  simp only [] at h
  by_cases h0:kdAt ns q=0
  ·rw [if_pos h0] at h
   cases h
   exact ⟨⟨J.wf,J.wt,kdAt_lt h0 (by omega),h0⟩,by omega,by omega⟩
  ·rw [if_neg h0] at h
   by_cases h2:kdAt ns q=2
   ·have hl:=kdAt_lt h2 (by omega)
    rw [if_pos h2,List.getElem?_eq_getElem hl] at h
    simp only [] at h
    obtain ⟨a,b⟩:=J.wt q h2
    have hks:ksAt ns q=ns[q].ks:=by unfold ksAt;rw [List.getElem?_eq_getElem hl]
    rw [hks] at a b
    have hm:ns[q].ks.getLastD 0 ∈ ns[q].ks:=by
     rw [List.getLastD_eq_getLast?,List.getLast?_eq_some_getLast a]
     exact List.getLast_mem a
    have hkd:=b _ hm
    cases h
    exact ⟨⟨J.wf,J.wt,kdAt_lt hkd (by omega),hkd⟩,by omega,by omega⟩
   ·rw [if_neg h2] at h;cases h
theorem endT_ok {ns ns':List Tn} {own:List Nat} {t t' p:Nat} {k:List UInt8} (J:Jt ns own t) (h:endT ns own t k p=.ok (t',ns')):Jt ns' (t' :: own) t'/\ns.length<=ns'.length/\ns'.length<=ns.length+2:=by
 unfold endT at h
 have fin:∀{n:List Tn} {q:Nat},Jt n own q->Jt n (q :: own) q:=fun j=>⟨wf_own _ _ j.wf _ j.lt,j.wt,j.lt,j.kd⟩
 cases hq:kidO ns t k with
 | none =>
  rw [hq] at h
  cases h
  exact ⟨fin (jt_add J _ rfl rfl),by rw [addN_len];omega,by rw [addN_len];omega⟩
 | some q =>
  rw [hq] at h
  simp only [] at h
  by_cases h0:kdAt ns q=0/\¬ q ∈ own
  ·rw [if_pos h0] at h
   cases h
   exact ⟨fin ⟨J.wf,J.wt,kdAt_lt h0.1 (by omega),h0.1⟩,by omega,by omega⟩
  ·rw [if_neg h0] at h;cases h
theorem endL_ok {ns ns':List Tn} {own:List Nat} {t t' p:Nat} {k:List UInt8} (J:Jt ns own t) (h:endL ns t k p=.ok (t',ns')):Jt ns' (t' :: own) t'/\ns.length<=ns'.length/\ns'.length<=ns.length+2:=by
 unfold endL at h
 have fin:∀{n:List Tn} {q:Nat},Jt n own q->Jt n (q :: own) q:=fun j=>⟨wf_own _ _ j.wf _ j.lt,j.wt,j.lt,j.kd⟩
 cases hq:kidO ns t k with
 | none =>
  rw [hq] at h
  cases h
  have hu:ns.length < (addN ns t ⟨2,k,[],0,[],p⟩).length:=by rw [addN_len];omega
  have w1:=wf_add ns own t ⟨2,k,[],0,[],p⟩ rfl J.lt J.wf
  have w2:=wf_add _ own ns.length ⟨0,[],[],0,[],p⟩ rfl hu w1
  have hl:(addN ns t ⟨2,k,[],0,[],p⟩).length=ns.length+1:=addN_len _ _ _
  refine ⟨fin ⟨w2,?_,by rw [addN_len,addN_len];omega,?_⟩,by rw [addN_len,addN_len];omega,by rw [addN_len,addN_len];omega⟩
  ·intro q h2
   rw [kdAt_addN _ _ _ hu,hl] at h2
   by_cases e1:q=ns.length+1
   ·rw [if_pos e1] at h2;exact absurd (show (0:Int)=2 from h2) (by decide)
   ·rw [if_neg e1,kdAt_addN _ _ _ J.lt] at h2
    rw [ksAt_addN _ _ _ hu,hl,if_neg e1]
    by_cases e2:q=ns.length
    ·rw [if_pos e2]
     refine ⟨by simp,fun x hx=>?_⟩
     rw [ksAt_addN _ _ _ J.lt,if_pos rfl] at hx
     simp only [List.nil_append,List.mem_singleton] at hx
     rw [kdAt_addN _ _ _ hu,hl,if_pos hx]
    ·rw [if_neg e2] at h2
     rw [if_neg e2]
     obtain ⟨a,b⟩:=J.wt q h2
     have hqt:¬ q=t:=fun e=>by rw [e,J.kd] at h2;exact absurd h2 (by decide)
     rw [ksAt_addN _ _ _ J.lt,if_neg e2,if_neg hqt]
     refine ⟨a,fun x hx=>?_⟩
     have:=J.wf.lt _ _ hx
     rw [kdAt_addN _ _ _ hu,hl,if_neg (by omega),kdAt_addN _ _ _ J.lt,if_neg (by omega)]
     exact b x hx
  ·rw [kdAt_addN _ _ _ hu,hl,if_pos rfl]
 | some q =>
  rw [hq] at h
  simp only [] at h
  by_cases h2:kdAt ns q=2
  ·rw [if_pos h2] at h
   cases h
   have hu:=kdAt_lt h2 (by omega)
   refine ⟨fin ⟨wf_add ns own q _ rfl hu J.wf,wt_add ns own J.wf q _ hu J.wt (fun e=>absurd (show (0:Int)=2 from e) (by decide)) (Or.inr rfl),by rw [addN_len];omega,?_⟩,by rw [addN_len];omega,by rw [addN_len];omega⟩
   rw [kdAt_addN _ _ _ hu,if_pos rfl]
  ·rw [if_neg h2] at h;cases h
theorem way_one (many:Bool) (own:List Nat) (k:List UInt8) (p t:Nat) (ns:List Tn):way many own [(k,p)] t ns=if many=true then endL ns t k p else endT ns own t k p:=rfl
theorem way_more (many:Bool) (own:List Nat) (k:List UInt8) (p:Nat) (b:List UInt8 × Nat) (r:List (List UInt8 × Nat)) (t:Nat) (ns:List Tn):way many own ((k,p) :: b :: r) t ns=match stp ns t k p with | .error e=>.error e | .ok (t1,ns1)=>way many own (b :: r) t1 ns1:=rfl
theorem way_ok (many:Bool) (own:List Nat):∀(l:List (List UInt8 × Nat)) (t:Nat) (ns ns':List Tn) (t':Nat),l ≠ []->Jt ns own t->way many own l t ns=.ok (t',ns')->Jt ns' (t' :: own) t'/\ns.length<=ns'.length/\ns'.length<=ns.length+l.length+1
 | [],_,_,_,_,hl,_,_=>absurd rfl hl
 | [(k,p)],t,ns,ns',t',_,J,h=>by
  rw [way_one] at h
  split at h
  ·obtain ⟨a,b,c⟩:=endL_ok J h
   exact ⟨a,b,by simp;omega⟩
  ·obtain ⟨a,b,c⟩:=endT_ok J h
   exact ⟨a,b,by simp;omega⟩
 | (k,p) :: b :: r,t,ns,ns',t',_,J,h=>by
  rw [way_more] at h
  cases hs:stp ns t k p with
  | error e=>rw [hs] at h;cases h
  | ok q =>
   obtain ⟨t1,ns1⟩:=q
   rw [hs] at h
   obtain ⟨a,b',c⟩:=stp_ok J hs
   obtain ⟨a2,b2,c2⟩:=way_ok many own (b :: r) t1 ns1 ns' t' (by simp) a h
   refine ⟨a2,by omega,?_⟩
   simp only [List.length_cons] at c2 ⊢
   omega
end Go.Proofs.YtbgnflcebafjjaaGreatDoor
namespace Go.Proofs.YtbgnflcebafjjaaGreatDoor
open Go.RowKit Go.Maps Go.WideMaps Go.Joins
set_option linter.unusedVariables false
structure Lo (B:Nat):Prop where
 te:5 < B
 ra:1 < B
 ma:2 < B
 tw:3 < B
theorem cell_bel {w w':World} {B:Nat} (hb:Below B w w') (a:Addr) (h:a.block < B):w'.cell? a=w.cell? a:=World.cell?_of_block (hb.block a.block h)
theorem Es.bel {w w':World} {E:Int->TypeId × Value} {B:Nat} (h:Es w E) (hL:Lo B) (hb:Below B w w'):Es w' E :=
 ⟨(cell_bel hb _ hL.te).trans h.te,(cell_bel hb _ hL.ra).trans h.ra,(cell_bel hb _ hL.ma).trans h.ma,(cell_bel hb _ hL.tw).trans h.tw⟩
def KyR (w:World) (g:Nat) (l:List (List UInt8 × Nat)):Prop:=∃cur:Array Value,w.heap[g]?=some (.cells cur 133 (0,0))/\∀i (hi:i < l.length),cur[i * 2]?=some (.string ⟨l[i].1.toArray⟩)/\cur[i * 2+1]?=some (.int .i64 (l[i].2:Nat))
theorem KyR.fr {w w':World} {B g:Nat} {l:List (List UInt8 × Nat)} (h:KyR w g l) (hf:Fr B w w'):KyR w' g l:=by
 obtain ⟨cur,h1,h2⟩:=h
 exact ⟨cur,(hf.oth _ _ _ _ h1 (by decide) (by decide) (by decide)).trans h1,h2⟩
theorem KyR.at {w:World} {g:Nat} {l:List (List UInt8 × Nat)} (h:KyR w g l) (i:Nat) (hi:i < l.length):w.cell? ⟨g,i * 2,none⟩=some (.string ⟨l[i].1.toArray⟩)/\w.cell? ⟨g,i * 2+1,none⟩=some (.int .i64 (l[i].2:Nat)):=by
 obtain ⟨cur,h1,h2⟩:=h
 obtain ⟨a,b⟩:=h2 i hi
 exact ⟨by rw [Lib.cell_of_heap h1];exact a,by rw [Lib.cell_of_heap h1];exact b⟩
theorem faultE_set {w:World} {v:Value} {E:Int->TypeId × Value} {c:Int} {p T o:Nat} {cs:Array Value} {x:Value} (h:FaultE w v E c p) (hT:w.heap[T]?=some (.cells cs 64 (0,0))):FaultE (w.setCell ⟨T,o,none⟩ x) v E c p:=by
 obtain ⟨F,h1,h2⟩:=h
 exact ⟨F,h1,(heap_setCell_other _ _ _ _ (ne_typ h2 hT (by decide))).trans h2⟩
def EnPost (B T:Nat) (own:List Nat) (E:Int->TypeId × Value) (r:Rs (Nat × List Tn)) (w:World) (e:Ending) (w':World):Prop :=
 (∀t ns,r=.ok (t,ns)->e=.returned .nilIface/\Tr w' B T ns (t :: own) t)/\(∀c p,r=.error (c,p)->∃v,e=.returned v/\FaultE w' v E c p)/\Fr B w w'
theorem Tr.blk {w:World} {B T:Nat} {ns:List Tn} {own:List Nat} {now:Nat} (h:Tr w B T ns own now):(∃cs,w.heap[T]?=some (.cells cs 64 (0,0)))/\B<=T:=by
 obtain ⟨N,c,M,xs,ks,hD⟩:=h
 exact ⟨⟨_,hD.blk⟩,hD.bT⟩
theorem Tr.hand {w:World} {B T:Nat} {ns:List Tn} {own:List Nat} {now:Nat} (h:Tr w B T ns own now) (m:Nat):Tr (w.setCell ⟨T,2,none⟩ (.int .i64 (m:Nat))) B T ns own m:=by
 obtain ⟨N,c,M,xs,ks,hD⟩:=h
 exact ⟨N,c,M,xs,ks,hD.hand m⟩
theorem Fr.hand {w w1:World} {B T:Nat} {cs:Array Value} (h:Fr B w w1) (hT:w1.heap[T]?=some (.cells cs 64 (0,0))) (hB:B<=T) (v:Value):Fr B w (w1.setCell ⟨T,2,none⟩ v):=h.two (Fr.row (gb_setc w1 T 2 v) (Nat.le_of_lt (Nat.lt_of_le_of_lt hB (blk_lt hT))) hB hT (Or.inl rfl))
theorem Tr.two {w:World} {B T:Nat} {ns:List Tn} {own:List Nat} {now:Nat} (h:Tr w B T ns own now):w.cell? ⟨T,2,none⟩=some (.int .i64 (now:Nat))/\w.frozen? ⟨T,2,none⟩=false:=by
 obtain ⟨N,c,M,xs,ks,hD⟩:=h
 obtain ⟨-,-,h2,h3⟩:=hD.cells
 exact ⟨h2,h3 2⟩
set_option maxRecDepth 100000 in
set_option maxHeartbeats 3200000 in
theorem tEnter_any (B T:Nat) (ns:List Tn) (own:List Nat) (now:Nat) (E:Int->TypeId × Value) (l:List (List UInt8 × Nat)) (many:Bool) (g c d:Nat) (w:World) (h:Tr w B T ns own now) (J:Jt ns own 0) (hl:l.length=d+1) (hc:d+1<=c) (hK:KyR w g l) (hsz:ns.length+own.length+d<=800000) (hk:∀x ∈ l,x.1.length<=1048576) (he:Es w E) (hL:Lo B) :
  Calls Tryz.prog 72 #[.pointer (some ⟨T,0,none⟩),.slice (some ⟨g,0,none⟩) (d+1) c,.bool many] w (EnPost B T own E (way many own l 0 ns) w):=by
 have CP:Hid (∀(m:List Tn) (t i:Nat) (hi:i < l.length) w',Tr w' B T m own now->Jt m own t->m.length<=ns.length+d->Fr B w w'->Calls Tryz.prog 96 #[.pointer (some ⟨T,0,none⟩),.int .i64 (t:Nat),.agg #[.string ⟨l[i].1.toArray⟩,.int .i64 (l[i].2:Nat)]] w' (PsPost B T own now E (stp m t l[i].1 l[i].2) w')):=fun m t i hi w' h1 j hm hf=>tPass_any B T m own now t E l[i].1 l[i].2 w' h1 j.wf j.wt j.lt j.kd (by omega) (hk _ (List.getElem_mem hi)) (he.bel hL hf.bel)
 have CT:Hid (∀(m:List Tn) (t i:Nat) (hi:i < l.length) w',Tr w' B T m own now->Jt m own t->m.length<=ns.length+d->Fr B w w'->Calls Tryz.prog 98 #[.pointer (some ⟨T,0,none⟩),.int .i64 (t:Nat),.agg #[.string ⟨l[i].1.toArray⟩,.int .i64 (l[i].2:Nat)]] w' (EtPost B T own now E (endT m own t l[i].1 l[i].2) w')):=fun m t i hi w' h1 j hm hf=>tEndT_any B T m own now t E l[i].1 l[i].2 w' h1 j.wf j.lt j.kd (by omega) (hk _ (List.getElem_mem hi)) (he.bel hL hf.bel)
 have CL:Hid (∀(m:List Tn) (t i:Nat) (hi:i < l.length) w',Tr w' B T m own now->Jt m own t->m.length<=ns.length+d->Fr B w w'->Calls Tryz.prog 97 #[.pointer (some ⟨T,0,none⟩),.int .i64 (t:Nat),.agg #[.string ⟨l[i].1.toArray⟩,.int .i64 (l[i].2:Nat)]] w' (EtPost B T own now E (endL m t l[i].1 l[i].2) w')):=fun m t i hi w' h1 j hm hf=>tEndL_any B T m own now t E l[i].1 l[i].2 w' h1 j.wf j.lt j.kd (by omega) (hk _ (List.getElem_mem hi)) (he.bel hL hf.bel)
 have hwd:wrap64 (d:Int)=(d:Int):=wrapJ d (by omega)
 have hwd2:(wrap64 (d:Int)).toNat=d:=by rw [hwd];exact Int.toNat_natCast d
 have HTR:Hid (Tr w B T ns own now):=h
 have HB:Hid (B<=w.heap.size):=h.base
 have HJ:Hid (Jt ns own 0):=J
 have HK:Hid (KyR w g l):=hK
 have HL:Hid (l.length=d+1):=hl
 have HW1:Hid (∀i (hi:i < l.length) t m,i+1 < l.length->way many own (l.drop i) t m=match stp m t l[i].1 l[i].2 with | .error e=>.error e | .ok (t1,ns1)=>way many own (l.drop (i+1)) t1 ns1):=fun i hi t m h2=>by
  rw [List.drop_eq_getElem_cons hi,List.drop_eq_getElem_cons h2]
  exact way_more many own l[i].1 l[i].2 l[i+1] _ t m
 have HW0:Hid (∀i (hi:i < l.length) t m,i+1=l.length->way many own (l.drop i) t m=if many=true then endL m t l[i].1 l[i].2 else endT m own t l[i].1 l[i].2):=fun i hi t m h2=>by
  rw [List.drop_eq_getElem_cons hi,List.drop_eq_nil_of_le (by omega)]
  exact way_one many own l[i].1 l[i].2 t m
 obtain ⟨S,hS⟩:∃S,way many own l 0 ns=S:=⟨_,rfl⟩
 have HS:Hid (way many own l 0 ns=S):=hS
 rw [hS]
 clear h J hK he hk hS hl
 go_enter Tryz.func72,Tryz.ntmps72
 go_wp2
 go_loopw [8,21] (fun v8 v21 wr=>∃(i t:Nat) (m:List Tn),v21=.int .i64 (i:Nat)/\v8=.int .i64 (t:Nat)/\i<=d/\Jt m own t/\Tr wr B T m own now/\way many own (l.drop i) t m=S/\m.length<=ns.length+i/\Fr B w wr) (fun _ v21 _=>d - (intOf v21).toNat)
 case atStart=>exact ⟨0,0,ns,rfl,rfl,Nat.zero_le _,HJ.out,HTR.out,HS.out,Nat.le_refl _,Fr.gb (gb_refl w none) HB.out⟩
 case round =>
  obtain ⟨i,t,m,rfl,rfl,hi,hj,htr,hway,hml,hfr⟩:=hrel
  have HJm:Hid (Jt m own t):=hj
  have HTm:Hid (Tr wr B T m own now):=htr
  have HFm:Hid (Fr B w wr):=hfr
  have hil:i < l.length:=by have:=HL.out;omega
  obtain ⟨a1,a2⟩:=(HK.out.fr hfr).at i hil
  by_cases hlt:i < d
  ·rw [HW1.out i hil t m (by have:=HL.out;omega)] at hway
   have HWAY:Hid ((match stp m t l[i].1 l[i].2 with | .error e=>.error e | .ok (t1,ns1)=>way many own (l.drop (i+1)) t1 ns1)=S):=hway
   have CP1:Hid (∀w',Tr w' B T m own now->Fr B w w'->Calls Tryz.prog 96 #[.pointer (some ⟨T,0,none⟩),.int .i64 (t:Nat),.agg #[.string ⟨l[i].1.toArray⟩,.int .i64 (l[i].2:Nat)]] w' (PsPost B T own now E (stp m t l[i].1 l[i].2) w')):=fun w' h1 h2=>CP.out m t i hil w' h1 hj (by omega) h2
   have HST:Hid (∀t1 m1,stp m t l[i].1 l[i].2=.ok (t1,m1)->Jt m1 own t1/\m.length<=m1.length/\m1.length<=m.length+1):=fun t1 m1 hs=>stp_ok hj hs
   obtain ⟨x,hx⟩:∃x,l[i]=x:=⟨_,rfl⟩
   rw [hx] at a1 a2 CP1 HWAY HST
   obtain ⟨R,hR⟩:∃R,stp m t x.1 x.2=R:=⟨_,rfl⟩
   rw [hR] at CP1 HWAY HST
   have hgA:wr.grownBy (wr.alloc (.cells #[.string ⟨x.1.toArray⟩,.int .i64 (x.2:Nat)] 133)) none:=World.grownBy_alloc wr _ none
   have HTA:Hid (Tr (wr.alloc (.cells #[.string ⟨x.1.toArray⟩,.int .i64 (x.2:Nat)] 133)) B T m own now):=htr.gb hgA
   have HFA:Hid (Fr B w (wr.alloc (.cells #[.string ⟨x.1.toArray⟩,.int .i64 (x.2:Nat)] 133))):=hfr.two (Fr.gb hgA htr.base)
   clear hj htr hway hfr hx hR hgA
   go_wp2_with (first | (go_at_call 96;refine (CP1.out _ HTA.out HFA.out).mono ?_))
   rintro e w2 ⟨p1,p2,p3⟩
   have HF2:Hid (Fr B w w2):=HFA.out.two p3
   cases R with
   | error ec =>
    obtain ⟨ec1,ec2⟩:=ec
    obtain ⟨v,rfl,F,rfl,hF⟩:=p2 ec1 ec2 rfl
    have HFV:Hid (FaultE w2 (.iface 65 (.pointer (some ⟨F,0,none⟩))) E ec1 ec2):=⟨F,rfl,hF⟩
    have HSE:Hid (S=.error (ec1,ec2)):=HWAY.out.symm
    clear p1 p2 p3 hF
    go_wp2
    refine bodyPost_ret (results_tmp (t:=6) rfl _ _ _) rfl ?_
    rw [HSE.out]
    exact ⟨fun t ns hh=>(by cases hh),fun c p hh=>(by cases hh;exact ⟨_,rfl,HFV.out⟩),HF2.out⟩
   | ok tm =>
    obtain ⟨t1,m1⟩:=tm
    obtain ⟨rfl,ht1⟩:=p1 t1 m1 rfl
    have HT1:Hid (Tr w2 B T m1 own now):=ht1
    obtain ⟨j1,-,j3⟩:=HST.out t1 m1 rfl
    have HJ1:Hid (Jt m1 own t1):=j1
    have HSE:Hid (way many own (l.drop (i+1)) t1 m1=S):=HWAY.out
    clear p1 p2 p3 ht1 j1
    go_wp2
    go_roundw
    case rel=>exact ⟨i+1,t1,m1,by go_num,rfl,by omega,HJ1.out,HT1.out,HSE.out,by omega,HF2.out⟩
    case measure=>simp [intOf];omega
  ·have hid:i=d:=by omega
   subst hid
   rw [HW0.out i hil t m (by have:=HL.out;omega)] at hway
   have HWAY:Hid ((if many=true then endL m t l[i].1 l[i].2 else endT m own t l[i].1 l[i].2)=S):=hway
   have CT1:Hid (∀w',Tr w' B T m own now->Fr B w w'->Calls Tryz.prog 98 #[.pointer (some ⟨T,0,none⟩),.int .i64 (t:Nat),.agg #[.string ⟨l[i].1.toArray⟩,.int .i64 (l[i].2:Nat)]] w' (EtPost B T own now E (endT m own t l[i].1 l[i].2) w')):=fun w' h1 h2=>CT.out m t i hil w' h1 hj (by omega) h2
   have CL1:Hid (∀w',Tr w' B T m own now->Fr B w w'->Calls Tryz.prog 97 #[.pointer (some ⟨T,0,none⟩),.int .i64 (t:Nat),.agg #[.string ⟨l[i].1.toArray⟩,.int .i64 (l[i].2:Nat)]] w' (EtPost B T own now E (endL m t l[i].1 l[i].2) w')):=fun w' h1 h2=>CL.out m t i hil w' h1 hj (by omega) h2
   obtain ⟨x,hx⟩:∃x,l[i]=x:=⟨_,rfl⟩
   rw [hx] at a1 a2 CT1 CL1 HWAY
   obtain ⟨⟨csT,hcsT⟩,hBT⟩:=htr.blk
   clear hj htr hway hfr hx hcsT
   cases many with
   | true =>
    have HSE0:Hid (endL m t x.1 x.2=S):=HWAY.out
    obtain ⟨R,hR⟩:∃R,endL m t x.1 x.2=R:=⟨_,rfl⟩
    rw [hR] at CL1 HSE0
    clear hR
    go_wp2_with (first | (go_at_call 97;refine (CL1.out _ HTm.out HFm.out).mono ?_))
    rintro e w2 ⟨p1,p2,p3⟩
    have HF2:Hid (Fr B w w2):=HFm.out.two p3
    cases R with
    | error ec =>
     obtain ⟨ec1,ec2⟩:=ec
     obtain ⟨v,rfl,⟨F,rfl,hF⟩,ns0,htr0⟩:=p2 ec1 ec2 rfl
     have HFV:Hid (FaultE w2 (.iface 65 (.pointer (some ⟨F,0,none⟩))) E ec1 ec2):=⟨F,rfl,hF⟩
     obtain ⟨⟨csT,hcsT⟩,-⟩:=htr0.blk
     have HCS:Hid (w2.heap[T]?=some (.cells csT 64 (0,0))):=hcsT
     obtain ⟨c2,f2⟩:=htr0.two
     have HSE:Hid (S=.error (ec1,ec2)):=HSE0.out.symm
     clear p1 p2 p3 hF hcsT htr0
     go_wp2
     refine bodyPost_ret (results_tmp (t:=6) rfl _ _ _) rfl ?_
     rw [HSE.out]
     exact ⟨fun t ns hh=>(by cases hh),fun c p hh=>(by cases hh;exact ⟨_,rfl,faultE_set HFV.out HCS.out⟩),HF2.out.hand HCS.out hBT _⟩
    | ok tm =>
     obtain ⟨t1,m1⟩:=tm
     obtain ⟨rfl,ht1⟩:=p1 t1 m1 rfl
     have HT1:Hid (Tr w2 B T m1 (t1 :: own) now):=ht1
     obtain ⟨⟨csT,hcsT⟩,-⟩:=ht1.blk
     have HCS:Hid (w2.heap[T]?=some (.cells csT 64 (0,0))):=hcsT
     obtain ⟨c2,f2⟩:=ht1.two
     have HSE:Hid (S=.ok (t1,m1)):=HSE0.out.symm
     clear p1 p2 p3 ht1 hcsT
     go_wp2
     refine bodyPost_ret (results_tmp (t:=6) rfl _ _ _) rfl ?_
     rw [HSE.out]
     exact ⟨fun t ns hh=>(by cases hh;exact ⟨rfl,HT1.out.hand t1⟩),fun c p hh=>(by cases hh),HF2.out.hand HCS.out hBT _⟩
   | false =>
    have HSE0:Hid (endT m own t x.1 x.2=S):=HWAY.out
    obtain ⟨R,hR⟩:∃R,endT m own t x.1 x.2=R:=⟨_,rfl⟩
    rw [hR] at CT1 HSE0
    clear hR
    go_wp2_with (first | (go_at_call 98;refine (CT1.out _ HTm.out HFm.out).mono ?_))
    rintro e w2 ⟨p1,p2,p3⟩
    have HF2:Hid (Fr B w w2):=HFm.out.two p3
    cases R with
    | error ec =>
     obtain ⟨ec1,ec2⟩:=ec
     obtain ⟨v,rfl,⟨F,rfl,hF⟩,ns0,htr0⟩:=p2 ec1 ec2 rfl
     have HFV:Hid (FaultE w2 (.iface 65 (.pointer (some ⟨F,0,none⟩))) E ec1 ec2):=⟨F,rfl,hF⟩
     obtain ⟨⟨csT,hcsT⟩,-⟩:=htr0.blk
     have HCS:Hid (w2.heap[T]?=some (.cells csT 64 (0,0))):=hcsT
     obtain ⟨c2,f2⟩:=htr0.two
     have HSE:Hid (S=.error (ec1,ec2)):=HSE0.out.symm
     clear p1 p2 p3 hF hcsT htr0
     go_wp2
     refine bodyPost_ret (results_tmp (t:=6) rfl _ _ _) rfl ?_
     rw [HSE.out]
     exact ⟨fun t ns hh=>(by cases hh),fun c p hh=>(by cases hh;exact ⟨_,rfl,faultE_set HFV.out HCS.out⟩),HF2.out.hand HCS.out hBT _⟩
    | ok tm =>
     obtain ⟨t1,m1⟩:=tm
     obtain ⟨rfl,ht1⟩:=p1 t1 m1 rfl
     have HT1:Hid (Tr w2 B T m1 (t1 :: own) now):=ht1
     obtain ⟨⟨csT,hcsT⟩,-⟩:=ht1.blk
     have HCS:Hid (w2.heap[T]?=some (.cells csT 64 (0,0))):=hcsT
     obtain ⟨c2,f2⟩:=ht1.two
     have HSE:Hid (S=.ok (t1,m1)):=HSE0.out.symm
     clear p1 p2 p3 ht1 hcsT
     go_wp2
     refine bodyPost_ret (results_tmp (t:=6) rfl _ _ _) rfl ?_
     rw [HSE.out]
     exact ⟨fun t ns hh=>(by cases hh;exact ⟨rfl,HT1.out.hand t1⟩),fun c p hh=>(by cases hh),HF2.out.hand HCS.out hBT _⟩
end Go.Proofs.YtbgnflcebafjjaaGreatDoor
namespace Go.Proofs.YtbgnflcebafjjaaGreatDoor
open Go.RowKit Go.Joins
set_option linter.unusedVariables false
theorem esc_len (l:List UInt8) (i n j:Nat) (hi:i < l.length) (h:escN l i=.ok (n,j)):(wrt n).length+i<=j:=by
 have h0:=h
 unfold escN at h
 split at h
 ·rename_i hx
  have hlt:i+1 < l.length:=nx_lt (by rw [hx];decide)
  unfold numB at h
  cases hf:four l 4 (i+2) 0 with
  | error e=>rw [hf] at h;cases h
  | ok q =>
   obtain ⟨m,k⟩:=q
   rw [hf] at h
   have h2:(if sur m=true then Except.error (2,i) else Except.ok (m,k):Rs (Nat × Nat))=.ok (n,j):=h
   split at h2
   ·cases h2
   ·cases h2
    obtain ⟨h3,h4,h5⟩:=four_ok l 4 (i+2) 0 n j (by omega) hf
    have:=wrt_len n
    omega
 ·cases hc:escC (nx l (i+1)) with
  | none=>rw [hc] at h;cases h
  | some m =>
   rw [hc] at h
   cases h
   obtain ⟨h1,h2⟩:=escC_small _ _ hc
   unfold wrt
   rw [if_pos h1]
   simp;omega
theorem str_ok (l:List UInt8):∀(f i:Nat) (acc t:List UInt8) (j:Nat),i<=l.length->str l f i acc=.ok (t,j)->i < j/\j<=l.length/\t.length+i<=acc.length+j:=by
 intro f
 induction f with
 | zero=>intro i acc t j hi h;cases h
 | succ f ih =>
  intro i acc t j hi h
  rw [str_step] at h
  split at h
  ·rename_i hx
   have:=nx_lt (l:=l) (i:=i) (by rw [hx];decide)
   cases h
   exact ⟨by omega,by omega,by omega⟩
  ·split at h
   ·rename_i hx
    have hlt:=nx_lt (l:=l) (i:=i) (by rw [hx];decide)
    rw [esc_escN] at h
    cases he:escN l i with
    | error e=>rw [he] at h;cases h
    | ok q =>
     obtain ⟨n,k⟩:=q
     rw [he] at h
     have h2:str l f k (acc++wrt n)=.ok (t,j):=h
     obtain ⟨-,-,e3,e4⟩:=escN_ok l i n k hlt he
     have e5:=esc_len l i n k hlt he
     obtain ⟨a,b,c⟩:=ih k _ t j e4 h2
     rw [List.length_append] at c
     exact ⟨by omega,b,by omega⟩
   ·split at h
    ·cases h
    ·split at h
     ·cases h
     ·rename_i hs
      have hk:=seqN_ok l i hi
      obtain ⟨a,b,c⟩:=ih (i+seqN l i) _ t j hk h
      have hl:(subT l i (seqN l i)).length<=seqN l i:=by
       unfold subT
       simp
       omega
      rw [List.length_append] at c
      exact ⟨by omega,b,by omega⟩
theorem rdKey_ok (l:List UInt8) (i:Nat) (k:List UInt8) (j:Nat) (hi:i<=l.length) (h:rdKey l i=.ok (k,j)):i < j/\j<=l.length/\k.length<=l.length:=by
 unfold rdKey at h
 split at h
 ·rename_i hx
  have hlt:=nx_lt (l:=l) (i:=i) (by rw [hx];decide)
  obtain ⟨a,b,c⟩:=str_ok l _ (i+1) [] k j (by omega) h
  simp at c
  exact ⟨by omega,b,by omega⟩
 ·split at h
  ·cases h
  ·rename_i hn
   have:=toR_le isBa l i hi
   cases h
   refine ⟨by omega,by omega,?_⟩
   unfold subT
   simp
   omega
open Go.RowKit
set_option linter.unusedVariables false
theorem gb_below {w w':World} (h:w.grownBy w' none):Below w.heap.size w w':=⟨h.os,h.tape,h.output,h.size,fun k hk=>h.block k hk (by simp)⟩
end Go.Proofs.YtbgnflcebafjjaaGreatDoor
namespace Go.Proofs
open Go.Shelf
def Tryz.lays316_ren:Go.Shelf.Ren:=⟨fun | 316=>120 | n=>n,fun | 22=>41 | 27=>155 | 28=>31 | 31=>108 | 34=>54 | 35=>157 | 37=>74 | 40=>212 | 41=>71 | 42=>158 | 43=>156 | 46=>175 | 47=>174 | 48=>200 | 49=>258 | 51=>193 | 52=>192 | 53=>195 | 54=>194 | 55=>177 | 69=>87 | 70=>73 | 71=>75 | 72=>76 | 73=>79 | 74=>42 | 75=>43 | 76=>118 | 77=>119 | 78=>121 | 79=>180 | 80=>85 | 81=>90 | 83=>127 | 84=>196 | 85=>218 | 86=>219 | 94=>125 | 104=>34 | 105=>181 | 106=>182 | 108=>233 | 111=>91 | 112=>159 | 114=>211 | 119=>213 | 126=>198 | 127=>126 | 128=>199 | 131=>190 | 137=>214 | 138=>215 | 139=>216 | 143=>235 | 144=>236 | 145=>237 | 164=>93 | 165=>176 | 167=>217 | 168=>220 | 169=>221 | 170=>222 | 171=>207 | 172=>208 | 173=>209 | 174=>210 | 175=>229 | 176=>230 | 182=>185 | 183=>186 | 209=>231 | 210=>232 | 211=>226 | 212=>227 | 213=>228 | 214=>234 | 218=>201 | 219=>202 | 220=>203 | 222=>205 | 228=>223 | 229=>224 | 232=>238 | 233=>239 | 238=>240 | 239=>241 | 240=>242 | 241=>243 | 242=>244 | 243=>246 | 244=>101 | 245=>247 | 246=>248 | 247=>249 | 248=>250 | 249=>251 | n=>n,fun | 1=>6 | 3=>7 | 4=>8 | 15=>10 | 16=>11 | 17=>9 | 18=>12 | 19=>13 | n=>n⟩
set_option maxRecDepth 100000 in
theorem Tryz.lays316:Go.Proofs.LaysM.n316 Tryz.prog Tryz.lays316_ren:={
 mixed:=by kernel_rfl
 f316:=Tryz.func120.trans (congrArg some (by kernel_rfl))
 t0:=Tryz.underlying0
 a0:=Tryz.isAgg0
 z0:=Tryz.sizeOf0
 v0:=Tryz.zeroValue0
 t3:=Tryz.underlying3
 a3:=Tryz.isAgg3
 z3:=Tryz.sizeOf3
 v3:=Tryz.zeroValue3
 t4:=Tryz.underlying4
 a4:=Tryz.isAgg4
 z4:=Tryz.sizeOf4
 v4:=Tryz.zeroValue4
 t9:=Tryz.underlying9
 a9:=Tryz.isAgg9
 z9:=Tryz.sizeOf9
 v9:=Tryz.zeroValue9
 t37:=Tryz.underlying74
 a37:=Tryz.isAgg74
 z37:=Tryz.sizeOf74
 v37:=Tryz.zeroValue74
 t127:=Tryz.underlying126
 a127:=Tryz.isAgg126
 z127:=Tryz.sizeOf126
 v127:=Tryz.zeroValue126
 t5:=Tryz.underlying5
 a5:=Tryz.isAgg5
 z5:=Tryz.sizeOf5
 v5:=Tryz.zeroValue5
 i0:=by kernel_rfl
 i3:=by kernel_rfl
 i4:=by kernel_rfl
 i5:=by kernel_rfl
 i9:=by kernel_rfl
 i37:=by kernel_rfl
 i127:=by kernel_rfl }
end Go.Proofs
namespace Go.Proofs.YtbgnflcebafjjaaGreatDoor
open Go.RowKit Go.Shelf
set_option linter.unusedVariables false
theorem cloneL_any (s:ByteArray) (w:World) (hlim:s.size<=281474976710656) :
  Calls Tryz.prog 120 #[.string s] w fun e w'=>e=.returned (.string s)/\Below w.heap.size w w':=Any.stringslite_Clone Tryz.lays316 s w hlim
set_option maxHeartbeats 400000 in
theorem clone_any (s:ByteArray) (w:World) (hlim:s.size<=281474976710656) :
  Calls Tryz.prog 100 #[.string s] w fun e w'=>e=.returned (.string s)/\w.grownBy w' none:=by
 have C:Hid (∀w,Calls Tryz.prog 120 #[.string s] w fun e w'=>e=.returned (.string s)/\Below w.heap.size w w'):=fun w=>cloneL_any s w hlim
 clear hlim
 go_enter Tryz.func100,Tryz.ntmps100
 go_wp2_with (first | (go_at_call 120;refine (C.out _).mono ?_;rintro e w1 ⟨rfl,hb⟩))
 go_ret
 exact ⟨rfl,⟨hb.os,hb.tape,hb.output,hb.size,fun k hk _=>hb.block k hk⟩⟩
end Go.Proofs.YtbgnflcebafjjaaGreatDoor
namespace Go.Proofs.YtbgnflcebafjjaaGreatDoor
open Go.RowKit Go.Maps Go.WideMaps Go.Joins
set_option linter.unusedVariables false
structure Gl (w:World) (B:Nat) (E:Int->TypeId × Value):Prop where
 es:Es w E
 lo:Lo B
 tabs:Lib.Utf8Tabs 7 8 w
 t3:7 < B
 t4:8 < B
theorem Gl.bel {w w':World} {B:Nat} {E:Int->TypeId × Value} (h:Gl w B E) (hb:Below B w w'):Gl w' B E :=
 ⟨h.es.bel h.lo hb,h.lo,⟨fun c hc=>(cell_bel hb _ h.t3).trans (h.tabs.1 c hc),fun i hi=>⟨(cell_bel hb _ h.t4).trans (h.tabs.2 i hi).1,(cell_bel hb _ h.t4).trans (h.tabs.2 i hi).2⟩⟩,h.t3,h.t4⟩
theorem gb_belo {w w':World} {B R:Nat} (hg:w.grownBy w' (some R)) (hR:B<=R) (hB:B<=w.heap.size):Below B w w':=⟨hg.os,hg.tape,hg.output,hg.size,fun k hk=>hg.block k (by omega) (by simp;omega)⟩
theorem Gl.gb {w w':World} {B R:Nat} {E:Int->TypeId × Value} (h:Gl w B E) (hg:w.grownBy w' (some R)) (hR:B<=R) (hB:B<=w.heap.size):Gl w' B E:=h.bel (gb_belo hg hR hB)
theorem far_of {B R:Nat} (h:Lo B) (hR:B<=R):Far R:=⟨by have:=h.te;omega,by have:=h.ra;omega,by have:=h.ma;omega,by have:=h.tw;omega⟩
theorem gb_new {w W:World} {r:Option Nat} {b:Nat} (h:w.grownBy W r) (hb:w.heap.size<=b) (o:Nat) (v:Value):w.grownBy (W.setCell ⟨b,o,none⟩ v) r :=
 ⟨h.os,h.tape,h.output,by have:=h.size;simpa [World.setCell] using this,fun k hk hn=>(heap_setCell_other _ _ _ _ (by simp;omega)).trans (h.block k hk hn)⟩
theorem results_cell_row2 {P:Program} {fn:Func} {p u:Tmp} {ty:TypeId} (h:fn.results=#[.cell p ty,.tmp u]) (tmps:Array Value) (w:World) (g:Nat) (t:TypeId) (cs:Array Value) (fr:Nat × Nat) (d:TypeDesc)
  (hp:tmps.getD p undef=.pointer (some ⟨g,0,none⟩)) (hg:w.heap[g]?=some (.cells cs t fr))
  (hu:P.underlying ty=some d) (hd:(match d with | .struct _ | .array _ _=>true | _=>false)=true) (hi:(P.info? ty).map (·.size)=some cs.size) :
  (results fn tmps).run P w=.ok (.tuple #[.agg cs,tmps.getD u undef]) w:=by
 have hp':tmps[p]?.getD undef=.pointer (some ⟨g,0,none⟩):=by simpa using hp
 rw [results_cell_tmp h]
 simp [hp',asAddr,run_loadVar_row w g t ty cs fr d hg hu hd hi,Result.andThen]
def KePost (R:Nat) (s:ByteArray) (T:Nat) (E:Int->TypeId × Value) (i:Nat) (g:Rs (List UInt8 × Nat)) (w:World) (e:Ending) (w':World):Prop :=
 (∀k j,g=.ok (k,j)->e=.returned (.tuple #[.agg #[.string ⟨k.toArray⟩,.int .i64 (i:Nat)],.nilIface])/\Rd w' R s j T)/\(∀c p,g=.error (c,p)->∃(a:ByteArray) (b:Int) (v:Value),e=.returned (.tuple #[.agg #[.string a,.int .i64 b],v])/\FaultE w' v E c p)/\w.grownBy w' (some R)
theorem faultE_new {w:World} {v:Value} {E:Int->TypeId × Value} {c:Int} {p Z o:Nat} {cs:Array Value} {x:Value} (h:FaultE w v E c p) (hZ:w.heap[Z]?=some (.cells cs 133 (0,0))):FaultE (w.setCell ⟨Z,o,none⟩ x) v E c p:=by
 obtain ⟨F,h1,h2⟩:=h
 exact ⟨F,h1,(heap_setCell_other _ _ _ _ (ne_typ h2 hZ (by decide))).trans h2⟩
theorem Rd.new {w:World} {R:Nat} {s:ByteArray} {i T Z o:Nat} {cs:Array Value} {x:Value} (h:Rd w R s i T) (hZ:w.heap[Z]?=some (.cells cs 133 (0,0))):Rd (w.setCell ⟨Z,o,none⟩ x) R s i T:=(heap_setCell_other _ _ _ _ (ne_typ h hZ (by decide))).trans h
theorem key_set2 {w:World} {Z:Nat} {a b x y:Value} (h:w.heap[Z]?=some (.cells #[a,b] 133 (0,0))):((w.setCell ⟨Z,0,none⟩ x).setCell ⟨Z,1,none⟩ y).heap[Z]?=some (.cells #[x,y] 133 (0,0)):=block_setCell (i:=1) (block_setCell (i:=0) h x) y
set_option maxRecDepth 100000 in
set_option maxHeartbeats 3200000 in
theorem tKey_any (R:Nat) (s:ByteArray) (i T B:Nat) (E:Int->TypeId × Value) (w:World) (h:Rd w R s i T) (hi:i<=s.size) (hs:s.size<=1048576) (G:Gl w B E) (hR:B<=R) (hBw:B<=w.heap.size) :
  Calls Tryz.prog 75 #[.pointer (some ⟨R,0,none⟩)] w (KePost R s T E i (rdKey s.data.toList i) w):=by
 have CN:Hid (∀k w,Rd w R s k T->k<=s.size->Calls Tryz.prog 40 #[.pointer (some ⟨R,0,none⟩)] w fun e w'=>e=.returned (.int .i64 (nx s.data.toList k))/\w.grownBy w' none):=fun k w h1 h2=>tNext_any R s k T w h1 h2 hs
 have CB:Hid (∀c w,Calls Tryz.prog 42 #[.int .i64 c] w fun e w'=>e=.returned (.bool (isBa c))/\w'=w):=tBare_any
 have CH:Hid (∀k w',w.grownBy w' (some R)->Rd w' R s k T->Calls Tryz.prog 79 #[.pointer (some ⟨R,0,none⟩)] w' fun e w''=>(∃v,e=.returned v/\FaultE w'' v E 2 k)/\w'.grownBy w'' none):=fun k w' hg hr=>(tHere_any R s k T (E 2).1 (E 2).2 w' hr (G.gb hg hR hBw).es.te).mono fun e w'' h=>h
 have CQ:Hid (i < s.size->∀w',w.grownBy w' (some R)->Rd w' R s i T->Calls Tryz.prog 99 #[.pointer (some ⟨R,0,none⟩)] w' (StPost R s T E (str s.data.toList (s.data.toList.length+1) (i+1) []) w')):=fun hlt w' hg hr=>tQuoted_any R s i T E w' hr hlt hs (G.gb hg hR hBw).es (far_of G.lo hR) (G.gb hg hR hBw).tabs (by have:=G.t3;omega) (by have:=G.t4;omega)
 have CC:Hid (∀(t:ByteArray) w,t.size<=1048576->Calls Tryz.prog 100 #[.string t] w fun e w'=>e=.returned (.string t)/\w.grownBy w' none):=fun t w ht=>clone_any t w (by omega)
 have hl:s.data.toList.length=s.size:=by simp
 have HLQ:Hid (nx s.data.toList i=34->i < s.size):=fun hx=>by
  have:=nx_lt (l:=s.data.toList) (i:=i) (by rw [hx];decide)
  omega
 have HST:Hid (∀k,k < s.size->isBa (nx s.data.toList k)=true->toR isBa s.data.toList k=toR isBa s.data.toList (k+1)):=fun k hk hb=>toR_step isBa _ k (by omega) hb
 have HSP:Hid (∀k,isBa (nx s.data.toList k)=false->toR isBa s.data.toList k=k):=fun k hb=>toR_stop isBa _ k hb
 have HLT:Hid (∀k,k<=s.size->isBa (nx s.data.toList k)=true->k < s.size):=fun k hk hb=>by
  apply Classical.byContradiction
  intro hn
  rw [nx_end _ _ (by omega)] at hb
  exact absurd hb (by decide)
 have HRE:Hid (rdKey s.data.toList i=if nx s.data.toList i=34 then str s.data.toList (s.data.toList.length+1) (i+1) [] else if toR isBa s.data.toList i=i then .error (2,i) else .ok (subT s.data.toList i (toR isBa s.data.toList i - i),toR isBa s.data.toList i)):=rfl
 have hij:=toR_le isBa s.data.toList i (by omega)
 rw [hl] at hij
 obtain ⟨J,hJ⟩:∃J,toR isBa s.data.toList i=J:=⟨_,rfl⟩
 have HJ:Hid (toR isBa s.data.toList i=J):=hJ
 rw [hJ] at HRE hij
 obtain ⟨hij1,hij2⟩:=hij
 obtain ⟨X,hX⟩:∃X:ByteArray,X=⟨(subT s.data.toList i (J - i)).toArray⟩:=⟨_,rfl⟩
 have s1:∀wx,(Instr.slice 9 (.string s) (some (.int .i64 (i:Int))) (some (.int .i64 (J:Int))) none).run Tryz.prog wx=.ok (.string X) wx:=fun wx=>by rw [hX];exact run_sub s i J hij1 hij2 wx
 have HXE:Hid (X=⟨(subT s.data.toList i (J - i)).toArray⟩):=hX
 have HXS:Hid (X.size<=1048576):=by
  show _<=_
  rw [hX]
  show (subT s.data.toList i (J - i)).toArray.size<=_
  unfold subT
  simp
  omega
 obtain ⟨SQ,hSQ⟩:∃SQ,str s.data.toList (s.data.toList.length+1) (i+1) []=SQ:=⟨_,rfl⟩
 rw [hSQ] at CQ HRE
 obtain ⟨G0,hG0⟩:∃G0,rdKey s.data.toList i=G0:=⟨_,rfl⟩
 rw [hG0] at HRE ⊢
 have hgZ:w.grownBy (w.alloc (.cells #[.string ⟨#[]⟩,.int .i64 0] 133)) (some R):=World.grownBy_alloc w _ _
 have hgZ0:w.grownBy (w.alloc (.cells #[.string ⟨#[]⟩,.int .i64 0] 133)) none:=World.grownBy_alloc w _ _
 have hbZ:=heap_alloc_new w (.cells #[.string ⟨#[]⟩,.int .i64 0] 133)
 obtain ⟨Z,hZ⟩:∃Z,w.heap.size=Z:=⟨_,rfl⟩
 rw [hZ] at hbZ
 obtain ⟨w1,hw1⟩:∃w1,w.alloc (.cells #[.string ⟨#[]⟩,.int .i64 0] 133)=w1:=⟨_,rfl⟩
 rw [hw1] at hgZ hgZ0 hbZ
 have HG1:Hid (w.grownBy w1 (some R)):=hgZ
 have HZ1:Hid (w1.heap[Z]?=some (.cells #[.string ⟨#[]⟩,.int .i64 0] 133 (0,0))):=hbZ
 have H1:Hid (Rd w1 R s i T):=h.grow hgZ0
 have HZR:Hid (¬ Z=R):=ne_typ hbZ H1.out (by decide)
 obtain ⟨c0,c1,-,-⟩:=H1.out.cells
 have C1:Hid (Calls Tryz.prog 40 #[.pointer (some ⟨R,0,none⟩)] w1 fun e w'=>e=.returned (.int .i64 (nx s.data.toList i))/\w1.grownBy w' none):=CN.out i w1 H1.out hi
 obtain ⟨x,hx⟩:∃x,nx s.data.toList i=x:=⟨_,rfl⟩
 rw [hx] at C1 HRE HLQ
 have HZs:Hid (w.heap.size<=Z):=by show _<=_;omega
 clear h hJ hX hSQ hG0 hgZ hgZ0 hbZ hx G
 go_enter Tryz.func75,Tryz.ntmps75
 go_wp2_with (first | (go_at_call 40;refine C1.out.mono ?_))
 rintro e w2 ⟨rfl,hg2⟩
 have HG2:Hid (w.grownBy w2 (some R)):=gb_more HG1.out hg2
 have HR2:Hid (Rd w2 R s i T):=H1.out.grow hg2
 have HZ2:Hid (w2.heap[Z]?=some (.cells #[.string ⟨#[]⟩,.int .i64 0] 133 (0,0))):=blk_gb HZ1.out hg2
 clear hg2 c0 c1
 by_cases hx34:x=34
 ·have hb:(x == 34)=true:=by simp [hx34]
  have hil:=HLQ.out hx34
  have HRG:Hid (G0=SQ):=by show _=_;rw [HRE.out,if_pos hx34]
  clear hx34
  go_wp2_with (first | (go_at_call 99;refine (CQ.out hil _ HG2.out HR2.out).mono ?_))
  rintro e w3 ⟨p1,p2,p3⟩
  have HG3:Hid (w.grownBy w3 (some R)):=gb_two HG2.out p3
  have hZ3:w3.heap[Z]?=some (.cells #[.string ⟨#[]⟩,.int .i64 0] 133 (0,0)):=(p3.block Z (blk_lt HZ2.out) (by simp only [ne_eq,Option.some.injEq];exact HZR.out)).trans HZ2.out
  have HZ3:Hid (w3.heap[Z]?=some (.cells #[.string ⟨#[]⟩,.int .i64 0] 133 (0,0))):=hZ3
  obtain ⟨z0,z1,zf⟩:=two_cells hZ3
  have zf0:=zf 0
  have zf1:=zf 1
  cases SQ with
  | error ec =>
   obtain ⟨ec1,ec2⟩:=ec
   obtain ⟨v,rfl,hv,-⟩:=p2 ec1 ec2 rfl
   have HFV:Hid (FaultE w3 v E ec1 ec2):=hv
   clear p1 p2 p3 hv hZ3 zf
   go_wp2
   refine bodyPost_ret (results_cell_row2 rfl _ _ Z 133 #[.string ⟨#[]⟩,.int .i64 (i:Nat)] (0,0) _ rfl (key_set2 HZ3.out) Tryz.underlying133 rfl (by kernel_rfl)) rfl ?_
   rw [HRG.out]
   exact ⟨fun k j hh=>(by cases hh),fun c p hh=>(by cases hh;exact ⟨_,_,v,rfl,faultE_new (faultE_new HFV.out HZ3.out) (block_setCell (i:=0) HZ3.out _)⟩),gb_new (gb_new HG3.out HZs.out 0 _) HZs.out 1 _⟩
  | ok q =>
   obtain ⟨tx,j⟩:=q
   obtain ⟨rfl,hr3⟩:=p1 tx j rfl
   have HR3:Hid (Rd w3 R s j T):=hr3
   clear p1 p2 p3 hr3 hZ3 zf
   go_wp2
   refine bodyPost_ret (results_cell_row2 rfl _ _ Z 133 #[.string ⟨tx.toArray⟩,.int .i64 (i:Nat)] (0,0) _ rfl (key_set2 HZ3.out) Tryz.underlying133 rfl (by kernel_rfl)) rfl ?_
   rw [HRG.out]
   exact ⟨fun k j hh=>(by cases hh;exact ⟨rfl,(HR3.out.new HZ3.out).new (block_setCell (i:=0) HZ3.out _)⟩),fun c p hh=>(by cases hh),gb_new (gb_new HG3.out HZs.out 0 _) HZs.out 1 _⟩
 ·have hb:(x == 34)=false:=by simp [hx34]
  have HRG:Hid (G0=if J=i then .error (2,i) else .ok (subT s.data.toList i (J - i),J)):=by show _=_;rw [HRE.out,if_neg hx34]
  clear hx34
  go_wp2
  go_loopw [] (fun wr=>∃k:Nat,Rd wr R s k T/\k<=s.size/\toR isBa s.data.toList k=J/\w.grownBy wr (some R)/\wr.heap[Z]?=some (.cells #[.string ⟨#[]⟩,.int .i64 0] 133 (0,0))) (fun wr=>s.size - (match wr.cell? ⟨R,1,none⟩ with | some (.int _ k)=>k.toNat | _=>0))
  case atStart=>exact ⟨i,HR2.out,hi,HJ.out,HG2.out,HZ2.out⟩
  case round =>
   obtain ⟨k,hrd,hk,hbl,hg,hzr⟩:=hrel
   have HRD:Hid (Rd wr R s k T):=hrd
   have HBL:Hid (toR isBa s.data.toList k=J):=hbl
   have HG:Hid (w.grownBy wr (some R)):=hg
   have HZr:Hid (wr.heap[Z]?=some (.cells #[.string ⟨#[]⟩,.int .i64 0] 133 (0,0))):=hzr
   have Ck:Hid (Calls Tryz.prog 40 #[.pointer (some ⟨R,0,none⟩)] wr fun e w'=>e=.returned (.int .i64 (nx s.data.toList k))/\wr.grownBy w' none):=CN.out k wr hrd hk
   have HME:Hid ((match wr.cell? ⟨R,1,none⟩ with | some (.int _ k)=>k.toNat | _=>0)=k):=by show _=_;rw [hrd.cells.2.1];simp
   have HS1:Hid (isBa (nx s.data.toList k)=true->toR isBa s.data.toList k=toR isBa s.data.toList (k+1)):=fun hb=>HST.out k (HLT.out k hk hb) hb
   have HS2:Hid (isBa (nx s.data.toList k)=false->toR isBa s.data.toList k=k):=HSP.out k
   have HL2:Hid (isBa (nx s.data.toList k)=true->k < s.size):=HLT.out k hk
   obtain ⟨c,hc⟩:∃c,nx s.data.toList k=c:=⟨_,rfl⟩
   rw [hc] at Ck HS1 HS2 HL2
   have CB1:Hid (∀w,Calls Tryz.prog 42 #[.int .i64 c] w fun e w'=>e=.returned (.bool (isBa c))/\w'=w):=fun w=>CB.out c w
   obtain ⟨b,hb⟩:∃b,isBa c=b:=⟨_,rfl⟩
   rw [hb] at CB1 HS1 HS2 HL2
   clear hrd hbl hg hzr hc hb
   cases b with
   | true =>
    have hkl:k < s.size:=HL2.out (by trivial)
    have HN:Hid (toR isBa s.data.toList (k+1)=J):=(HS1.out (by trivial)).symm.trans HBL.out
    go_wp2_with (first | (go_at_call 40;refine Ck.out.mono ?_;rintro e w3 ⟨rfl,hg3⟩;obtain ⟨-,d1,-,df⟩:=(HRD.out.grow hg3).cells;have df1:=df 1) | (go_at_call 42;refine (CB1.out _).mono ?_;rintro e w' ⟨rfl,rfl⟩))
    have HS3:Hid (Rd (w'.setCell ⟨R,1,none⟩ (.int .i64 ((k:Int)+1))) R s (k+1) T):=(HRD.out.grow hg3).set (k+1)
    refine ⟨⟨k+1,HS3.out,by omega,HN.out,gb_set (gb_more HG.out hg3) 1 _,(heap_setCell_other _ _ _ _ (by simp only [];exact HZR.out)).trans (blk_gb HZr.out hg3)⟩,?_⟩
    rw [HME.out,HS3.out.cells.2.1]
    simp
    omega
   | false =>
    have HKJ:Hid (k=J):=(HS2.out (by trivial)).symm.trans HBL.out
    go_wp2_with (first | (go_at_call 40;refine Ck.out.mono ?_))
    rintro e w3 rfl hg3
    have HR3:Hid (Rd w3 R s J T):=by rw [<-HKJ.out];exact HRD.out.grow hg3
    have HG3:Hid (w.grownBy w3 (some R)):=gb_more HG.out hg3
    have HZ3:Hid (w3.heap[Z]?=some (.cells #[.string ⟨#[]⟩,.int .i64 0] 133 (0,0))):=blk_gb HZr.out hg3
    obtain ⟨d0,d1,-,-⟩:=HR3.out.cells
    clear hg3
    by_cases hJi:J=i
    ·have hbj:((J:Int) == (i:Int))=true:=by simp [hJi]
     have HGE:Hid (G0=.error (2,J)):=by show _=_;rw [HRG.out,if_pos hJi,hJi]
     have CH1:Hid (Calls Tryz.prog 79 #[.pointer (some ⟨R,0,none⟩)] w3 fun e w''=>(∃v,e=.returned v/\FaultE w'' v E 2 J)/\w3.grownBy w'' none):=CH.out J _ HG3.out HR3.out
     clear hJi
     go_wp2_with (first | (go_at_call 42;refine (CB1.out _).mono ?_;rintro e w' ⟨rfl,rfl⟩) | (go_at_call 79;refine CH1.out.mono ?_;rintro e w4 ⟨⟨v,rfl,hv⟩,hg4⟩;obtain ⟨z0,z1,zf⟩:=two_cells (blk_gb HZ3.out hg4);have zf0:=zf 0;have zf1:=zf 1))
     have hZ4:=blk_gb HZ3.out hg4
     refine bodyPost_ret (results_cell_row2 rfl _ _ Z 133 #[.string ⟨#[]⟩,.int .i64 0] (0,0) _ rfl (key_set2 hZ4) Tryz.underlying133 rfl (by kernel_rfl)) rfl ?_
     rw [HGE.out]
     exact ⟨fun k j hh=>(by cases hh),fun c p hh=>(by cases hh;exact ⟨_,_,v,rfl,faultE_new (faultE_new hv hZ4) (block_setCell (i:=0) hZ4 _)⟩),gb_new (gb_new (gb_more HG3.out hg4) HZs.out 0 _) HZs.out 1 _⟩
    ·have hbj:((J:Int) == (i:Int))=false:=by rw [beq_eq_false_iff_ne];omega
     have HGE:Hid (G0=.ok (subT s.data.toList i (J - i),J)):=by show _=_;rw [HRG.out,if_neg hJi]
     have CC1:Hid (∀w,Calls Tryz.prog 100 #[.string X] w fun e w'=>e=.returned (.string X)/\w.grownBy w' none):=fun w=>CC.out X w HXS.out
     clear hJi
     go_wp2_with (first | (go_at_call 42;refine (CB1.out _).mono ?_;rintro e w' ⟨rfl,rfl⟩))
     go_region_with (first | (go_at_call 100;refine (CC1.out _).mono ?_;rintro e w6 ⟨rfl,hg6⟩;have hg66:w'.grownBy w6 none:=⟨hg6.os,hg6.tape,hg6.output,hg6.size,hg6.block⟩;obtain ⟨z0,z1,zf⟩:=two_cells (blk_gb HZ3.out hg66);have zf0:=zf 0;have zf1:=zf 1))
     all_goals (
      have hZ4:=blk_gb HZ3.out hg66
      go_wp2
      refine bodyPost_ret (results_cell_row2 rfl _ _ Z 133 #[.string X,.int .i64 (i:Nat)] (0,0) _ rfl (key_set2 hZ4) Tryz.underlying133 rfl (by kernel_rfl)) rfl ?_
      rw [HGE.out]
      exact ⟨fun k j hh=>(by cases hh;rw [<-HXE.out];exact ⟨rfl,((HR3.out.grow hg66).new hZ4).new (block_setCell (i:=0) hZ4 _)⟩),fun c p hh=>(by cases hh),gb_new (gb_new (gb_more HG3.out hg66) HZs.out 0 _) HZs.out 1 _⟩)
end Go.Proofs.YtbgnflcebafjjaaGreatDoor
namespace Go.Proofs.YtbgnflcebafjjaaGreatDoor
open Go.RowKit Go.Joins
set_option linter.unusedVariables false
theorem gap_ok (l:List UInt8):∀(f i j:Nat),i<=l.length->gap l f i=.ok j->i<=j/\j<=l.length:=by
 intro f
 induction f with
 | zero=>intro i j hi h;cases h
 | succ f ih =>
  intro i j hi h
  rw [gap_step] at h
  have h1:=bl_le l i hi
  have h2:=cmt_le l (bl l i) h1.2
  split at h
  ·cases h
  ·split at h
   ·rename_i hx
    have h3:=nx_lt (l:=l) (i:=(cmt l (bl l i)).2) (by rw [hx];decide)
    have:=ih _ j (by omega) h
    omega
   ·cases h
    omega
theorem rdInt_ok (l:List UInt8) (i:Nat) (n:Int) (j:Nat) (hi:i < l.length) (h:rdInt l i=.ok (n,j)):i < j/\j<=l.length:=by
 unfold rdInt at h
 simp only [] at h
 have ha:i<=(if isDg (nx l i)=true then i else i+1)/\(if isDg (nx l i)=true then i else i+1)<=l.length:=by split <;> omega
 generalize (if isDg (nx l i)=true then i else i+1)=a at h ha
 have hj:=toR_le isDg l a ha.2
 split at h
 ·cases h
 ·rename_i hn
  split at h
  ·cases h
  ·have hne:¬ toR isDg l a=a:=fun e=>hn (Or.inl e)
   cases h
   omega
theorem rdTru_ok (l:List UInt8) (i:Nat) (n:Int) (j:Nat) (hi:i<=l.length) (h:rdTru l i=.ok (n,j)):i < j/\j<=l.length:=by
 rw [rdTru_eq] at h
 have hj:=toR_le isSm l i hi
 have key:∀t:List UInt8,subT l i (toR isSm l i - i)=t->t ≠ []->i < toR isSm l i:=fun t e ht=>by
  apply Classical.byContradiction
  intro hn
  apply ht
  rw [<-e]
  unfold subT
  rw [show toR isSm l i - i=0 by omega]
  simp
 split at h
 ·rename_i e
  have:=key _ e (by simp)
  cases h
  omega
 ·split at h
  ·rename_i e
   have:=key _ e (by simp)
   cases h
   omega
  ·cases h
structure Ad (ns ns':List Tn) (own:List Nat) (i j n:Nat):Prop where
 wf:WF ns' own
 wt:WT ns'
 lo:ns.length<=ns'.length
 hi:ns'.length+i<=ns.length+j
 kd:∀q,q < ns.length->kdAt ns' q=kdAt ns q
 fw:i < j
 en:j<=n
theorem ad_one {ns:List Tn} {own:List Nat} {up i j n:Nat} {x:Tn} (W:WF ns own) (V:WT ns) (hu:up < ns.length) (h2:¬ kdAt ns up=2) (hx:x.ks=[]) (hk:¬ x.kd=2) (hij:i < j) (hjn:j<=n):Ad ns (addN ns up x) own i j n :=
 ⟨wf_add ns own up x hx hu W,wt_add ns own W up x hu V hk (Or.inl h2),by rw [addN_len];omega,by rw [addN_len];omega,fun q hq=>by rw [kdAt_addN ns up x hu,if_neg (by omega)],hij,hjn⟩
theorem Ad.trans {a b c:List Tn} {own:List Nat} {i j k n:Nat} (h:Ad a b own i j n) (h':Ad b c own j k n):Ad a c own i k n :=
 ⟨h'.wf,h'.wt,Nat.le_trans h.lo h'.lo,by have:=h.hi;have:=h'.hi;omega,fun q hq=>(h'.kd q (Nat.lt_of_lt_of_le hq h.lo)).trans (h.kd q hq),Nat.lt_trans h.fw h'.fw,h'.en⟩
theorem Ad.wide {a b:List Tn} {own:List Nat} {i i' j j' n:Nat} (h:Ad a b own i j n) (hi:i'<=i) (hj:j<=j') (hn:j'<=n):Ad a b own i' j' n :=
 ⟨h.wf,h.wt,h.lo,by have:=h.hi;omega,h.kd,by have:=h.fw;omega,hn⟩
theorem val_step (l:List UInt8) (f i up:Nat) (k:List UInt8) (p d:Nat) (ns:List Tn):val l (f+1) i up k p d ns =
  if nx l i=34 then (match str l (l.length+1) (i+1) [] with | .error e=>.error e | .ok (t,j)=>.ok (j,addN ns up ⟨3,k,t,0,[],p⟩))
  else if nx l i=43\/nx l i=45\/isDg (nx l i)=true then (match rdInt l i with | .error e=>.error e | .ok (n,j)=>.ok (j,addN ns up ⟨4,k,[],n,[],p⟩))
  else if nx l i=116\/nx l i=102 then (match rdTru l i with | .error e=>.error e | .ok (n,j)=>.ok (j,addN ns up ⟨5,k,[],n,[],p⟩))
  else if nx l i=91 then (if d=8 then .error (4,i) else lst l f (i+1) ns.length (d+1) (addN ns up ⟨1,k,[],0,[],p⟩))
  else .error (2,i):=by
 rw [val]
 rfl
theorem lst_step (l:List UInt8) (f i up d:Nat) (ns:List Tn):lst l (f+1) i up d ns =
  match gap l (l.length+1) i with
  | .error e=>.error e
  | .ok j =>
   if nx l j=93 then .ok (j+1,ns)
   else match val l f j up [] j d ns with
    | .error e=>.error e
    | .ok (j1,ns1)=>match gap l (l.length+1) j1 with
     | .error e=>.error e
     | .ok j2=>if nx l j2=44 then lst l f (j2+1) up d ns1 else if nx l j2=93 then .ok (j2+1,ns1) else .error (2,j2):=by
 rw [lst]
 rfl
theorem val_lst_ok (l:List UInt8) (own:List Nat):∀f:Nat,(∀i up k p d ns j ns',i<=l.length->WF ns own->WT ns->up < ns.length->¬ kdAt ns up=2->val l f i up k p d ns=.ok (j,ns')->Ad ns ns' own i j l.length)/\(∀i up d ns j ns',i<=l.length->WF ns own->WT ns->up < ns.length->¬ kdAt ns up=2->lst l f i up d ns=.ok (j,ns')->WF ns' own/\WT ns'/\ns.length<=ns'.length/\ns'.length+i<=ns.length+j/\(∀q,q < ns.length->kdAt ns' q=kdAt ns q)/\i < j/\j<=l.length):=by
 intro f
 induction f with
 | zero =>
  refine ⟨fun i up k p d ns j ns' _ _ _ _ _ h=>?_,fun i up d ns j ns' _ _ _ _ _ h=>?_⟩
  ·rw [val] at h;cases h
  ·rw [lst] at h;cases h
 | succ f ih =>
  refine ⟨fun i up k p d ns j ns' hi W V hu h2 h=>?_,fun i up d ns j ns' hi W V hu h2 h=>?_⟩
  ·rw [val_step] at h
   split at h
   ·rename_i hx
    have hlt:=nx_lt (l:=l) (i:=i) (by rw [hx];decide)
    cases hs:str l (l.length+1) (i+1) [] with
    | error e=>rw [hs] at h;cases h
    | ok q =>
     obtain ⟨t,j'⟩:=q
     rw [hs] at h
     obtain ⟨a,b,-⟩:=str_ok l _ (i+1) [] t j' (by omega) hs
     cases h
     exact ad_one W V hu h2 rfl (fun e=>absurd (show (3:Int)=2 from e) (by decide)) (by omega) b
   ·split at h
    ·rename_i hx
     have hlt:i < l.length:=by
      apply nx_lt
      rcases hx with hx | hx | hx
      ·rw [hx];decide
      ·rw [hx];decide
      ·have:=of_decide_eq_true hx;omega
     cases hs:rdInt l i with
     | error e=>rw [hs] at h;cases h
     | ok q =>
      obtain ⟨t,j'⟩:=q
      rw [hs] at h
      obtain ⟨a,b⟩:=rdInt_ok l i t j' hlt hs
      cases h
      exact ad_one W V hu h2 rfl (fun e=>absurd (show (4:Int)=2 from e) (by decide)) a b
    ·split at h
     ·cases hs:rdTru l i with
      | error e=>rw [hs] at h;cases h
      | ok q =>
       obtain ⟨t,j'⟩:=q
       rw [hs] at h
       obtain ⟨a,b⟩:=rdTru_ok l i t j' hi hs
       cases h
       exact ad_one W V hu h2 rfl (fun e=>absurd (show (5:Int)=2 from e) (by decide)) a b
     ·split at h
      ·rename_i hx
       have hlt:=nx_lt (l:=l) (i:=i) (by rw [hx];decide)
       split at h
       ·cases h
       ·have A:=ad_one (i:=i) (j:=i+1) (n:=l.length) (x:=⟨1,k,[],0,[],p⟩) W V hu h2 rfl (fun e=>absurd (show (1:Int)=2 from e) (by decide)) (by omega) (by omega)
        obtain ⟨a1,a2,a3,a4,a5,a6,a7⟩:=ih.2 (i+1) ns.length (d+1) _ j ns' (by omega) A.wf A.wt (by rw [addN_len];omega) (by rw [kdAt_addN ns up _ hu,if_pos rfl];exact fun e=>absurd (show (1:Int)=2 from e) (by decide)) h
        have e1:=A.hi
        have e2:=A.lo
        exact ⟨a1,a2,by omega,by omega,fun q hq=>(a5 q (by omega)).trans (A.kd q hq),by omega,a7⟩
      ·cases h
  ·rw [lst_step] at h
   cases hg:gap l (l.length+1) i with
   | error e=>rw [hg] at h;cases h
   | ok j0 =>
    rw [hg] at h
    simp only [] at h
    obtain ⟨g1,g2⟩:=gap_ok l _ i j0 hi hg
    split at h
    ·rename_i hx
     have hlt:=nx_lt (l:=l) (i:=j0) (by rw [hx];decide)
     cases h
     exact ⟨W,V,Nat.le_refl _,by omega,fun _ _=>rfl,by omega,by omega⟩
    ·cases hv:val l f j0 up [] j0 d ns with
     | error e=>rw [hv] at h;cases h
     | ok q =>
      obtain ⟨j1,ns1⟩:=q
      rw [hv] at h
      simp only [] at h
      have A:=ih.1 j0 up [] j0 d ns j1 ns1 g2 W V hu h2 hv
      have e1:=A.hi
      have e2:=A.lo
      have e3:=A.fw
      have e4:=A.en
      cases hg2:gap l (l.length+1) j1 with
      | error e=>rw [hg2] at h;cases h
      | ok j2 =>
       rw [hg2] at h
       simp only [] at h
       obtain ⟨g3,g4⟩:=gap_ok l _ j1 j2 A.en hg2
       split at h
       ·rename_i hx
        have hlt:=nx_lt (l:=l) (i:=j2) (by rw [hx];decide)
        obtain ⟨a1,a2,a3,a4,a5,a6,a7⟩:=ih.2 (j2+1) up d ns1 j ns' (by omega) A.wf A.wt (by omega) (by rw [A.kd up hu];exact h2) h
        exact ⟨a1,a2,by omega,by omega,fun q hq=>(a5 q (by omega)).trans (A.kd q hq),by omega,a7⟩
       ·split at h
        ·rename_i hx
         have hlt:=nx_lt (l:=l) (i:=j2) (by rw [hx];decide)
         cases h
         exact ⟨A.wf,A.wt,A.lo,by omega,A.kd,by omega,by omega⟩
        ·cases h
end Go.Proofs.YtbgnflcebafjjaaGreatDoor
