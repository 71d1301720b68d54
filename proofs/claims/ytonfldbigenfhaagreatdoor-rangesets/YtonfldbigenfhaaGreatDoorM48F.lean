import Derived.Test.YtonfldbigenfhaaGreatDoorM13
import Derived.Test.YtonfldbigenfhaaGreatDoorM42
import Derived.Test.YtonfldbigenfhaaGreatDoorM37
import Derived.Test.YtonfldbigenfhaaGreatDoorM25
namespace Go.Proofs.YtonfldbigenfhaaGreatDoor
open Go.RowKit
set_option linter.unusedVariables false
def TPost (f:V->Bool) (k:Nat) (w:World) (e:Ending) (w':World):Prop:=w.grownBy w' none/\∃o n c T,e=.returned (.tuple #[.slice o n c,.int .i64 0])/\SpS w' (.slice o n c) (outs T)/\NT T k/\∀x,holdsL (outs T) x=f x
theorem sweep_tpost {ch:Int->Bool} (h0:ch 0=false) {Ls:List (List Sp)} {f:V->Bool} {w:World} {e:Ending} {w':World} (hsz:∀l ∈ Ls,l.length<=1048576/\∀s ∈ l,smallS s) (hsd:Ls.all (·.all soundS)=true) (hf:∀x,ch (haveN (Ls.map (·.map toSg)) x)=f x) (h:SweepPost ch Ls w e w'):TPost f Ls.length w e w':=by
 refine ⟨h.1,?_⟩
 rcases h.2 with ⟨h1,h2⟩ | ⟨h1,E,vs,h2,h3,h4,h5,_⟩
 ·exact absurd hsd h1
 ·obtain ⟨o,n,c,rfl⟩:=sps_slice h5
  have hT:=sweep_nt ch Ls hsz h1 E h2 h3
  refine ⟨o,n,c,_,h4,h5,hT,fun x=>?_⟩
  rw [outs_par _ hT.up]
  have hp:=sweep_par ch h0 (Ls.map (·.map toSg)) (E.map toEd) (by rw [<-erL_ed];exact h2.map _) h3 x
  rw [List.length_map] at hp
  rw [hp,hf]
theorem cMeetT (sl sm:Value) (L M:List Sp) (w:World) (h:SpS w sl L) (h':SpS w sm M) (hL:L.length<=1048576) (hsz:∀s ∈ L,smallS s) (hM:M.length<=1048576) (hsm:∀s ∈ M,smallS s) (hsd:L.all soundS=true) (hsd':M.all soundS=true):Calls Tryz.prog 26 #[sl,sm] w (TPost (fun x=>holdsL L x && holdsL M x) 2 w):=by
 refine (meet_any sl sm L M w h h' hL hsz hM hsm).mono ?_
 intro e w' hp
 exact sweep_tpost (by decide) (by intro l hl;simp at hl;rcases hl with rfl | rfl <;> first | exact ⟨hL,hsz⟩ | exact ⟨hM,hsm⟩) (by simp [hsd,hsd']) (fun x=>have_all L M x) hp
theorem cJoinT (sl sm:Value) (L M:List Sp) (w:World) (h:SpS w sl L) (h':SpS w sm M) (hL:L.length<=1048576) (hsz:∀s ∈ L,smallS s) (hM:M.length<=1048576) (hsm:∀s ∈ M,smallS s) (hsd:L.all soundS=true) (hsd':M.all soundS=true):Calls Tryz.prog 24 #[sl,sm] w (TPost (fun x=>holdsL L x || holdsL M x) 2 w):=by
 refine (join_any sl sm L M w h h' hL hsz hM hsm).mono ?_
 intro e w' hp
 exact sweep_tpost (by decide) (by intro l hl;simp at hl;rcases hl with rfl | rfl <;> first | exact ⟨hL,hsz⟩ | exact ⟨hM,hsm⟩) (by simp [hsd,hsd']) (fun x=>have_some L M x) hp
open Go.RowKit
set_option linter.unusedVariables false
def betQ (L:List Tq):Bool:=isBet (L.map teOf)
theorem add_y (s t:ByteArray) (P:List UInt8) (h:s.size+P.length+t.size<=9223372036854775807):∃Y Z:ByteArray,Z.data.toList=s.data.toList++(P++t.data.toList)/\(∀wx,(Op.stringOp .add s ⟨P.toArray⟩).run Tryz.prog wx=.ok (.string Y) wx)/\∀wx,(Op.stringOp .add Y t).run Tryz.prog wx=.ok (.string Z) wx:=by
 have es:s=⟨s.data.toList.toArray⟩:=by cases s;simp
 have et:t=⟨t.data.toList.toArray⟩:=by cases t;simp
 have ls:s.data.toList.length=s.size:=by simp
 have lt:t.data.toList.length=t.size:=by simp
 refine ⟨⟨(s.data.toList++P).toArray⟩,⟨(s.data.toList++P++t.data.toList).toArray⟩,by simp,fun wx=>?_,fun wx=>?_⟩
 ·conv=>lhs;rw [es]
  exact add_lists _ P wx (by omega)
 ·conv=>lhs;rw [et]
  exact add_lists _ _ wx (by rw [List.length_append];omega)
theorem between_ts (sl:Value) (L:List Tq) (w:World) (h:TsAt w sl L) (hL:L.length<=1000):Calls Tryz.prog 25 #[sl] w fun e w'=>e=.returned (.bool (betQ L))/\w.grownBy w' none:=by
 rcases h with ⟨rfl,rfl⟩ | ⟨a,cap,rfl,hcap,hc⟩
 ·go_enter Tryz.func25,Tryz.ntmps25
  go_wp2
  go_ret
  exact ⟨rfl,gb_refl _ _⟩
 ·by_cases h2:L.length=2
  ·obtain ⟨x,y,rfl⟩:∃x y,L=[x,y]:=by
    match L,h2 with
    | [x,y],_=>exact ⟨x,y,rfl⟩
   have c0:=(hc 0 (by simp)).1
   simp only [Nat.zero_mul,List.getElem_cons_zero] at c0
   have e0:a.add 0=a:=by simp [Addr.add]
   rw [e0] at c0
   have hb:betQ [x,y]=(x.sg == 7):=by
    show decide ((teOf x).sign=7)=_
    rw [Bool.eq_iff_iff,decide_eq_true_eq,beq_iff_eq]
    rfl
   rw [hb]
   obtain ⟨sg,hsg⟩:∃sg,x.sg=sg:=⟨_,rfl⟩
   rw [hsg] at c0 ⊢
   clear hc hb hsg h2 e0
   simp only [List.length_cons,List.length_nil,Nat.zero_add,Nat.reduceAdd] at hcap hL ⊢
   cases hz:(sg == 7) with
   | true =>
    go_enter Tryz.func25,Tryz.ntmps25
    go_wp2
    go_ret
    exact ⟨rfl,gb_refl _ _⟩
   | false =>
    go_enter Tryz.func25,Tryz.ntmps25
    go_wp2
    go_ret
    exact ⟨rfl,gb_refl _ _⟩
  ·have hb:betQ L=false:=by
    unfold betQ isBet
    match L,h2 with
    | [],_=>rfl
    | [_],_=>rfl
    | _ :: _ :: _ :: _,_=>rfl
   rw [hb]
   obtain ⟨n,hn⟩:∃n,L.length=n:=⟨_,rfl⟩
   rw [hn] at h2 hcap hL ⊢
   have h2':((n:Int) == 2)=false:=by simp;omega
   clear hc hb hn
   go_enter Tryz.func25,Tryz.ntmps25
   go_wp2
   go_ret
   exact ⟨rfl,gb_refl _ _⟩
theorem ss_slice {w:World} {o:Option Addr} {n c:Nat} {A:List (List Tq)} (h:SsAt w (.slice o n c) A):n=A.length/\(A.length=1->∃a sl,o=some a/\n<=c/\w.cell? a=some sl/\∀(hi:0 < A.length),TsAt w sl A[0]):=by
 rcases h with ⟨e,rfl⟩ | ⟨a,cap,e,h2,h3⟩
 ·cases e;exact ⟨rfl,fun h=>by simp at h⟩
 ·cases e
  refine ⟨rfl,fun h=>?_⟩
  obtain ⟨sl,h4,h5⟩:=h3 0 (by omega)
  have e0:a.add 0=a:=by simp [Addr.add]
  rw [e0] at h4
  exact ⟨a,sl,rfl,h2,h4,fun _=>h5⟩
theorem set_join {s t:List UInt8} {S U:List (List Te)} (h1:rdRange s=(0,0,S)) (h2:rdRange t=(0,0,U)) (hl:s.length+t.length+2<=200):rdRange (s++([124,124]++t))=(0,0,S++U):=by
 have a1:=(range_take s (by rw [h1])).1
 have a2:=(range_take t (by rw [h2])).1
 rw [h1] at a1
 rw [h2] at a2
 exact range_give (rt_app a1 a2) (by simp only [List.length_append,List.length_cons,List.length_nil];omega)
theorem set_meet {s t:List UInt8} {x y:List Te} (h1:rdRange s=(0,0,[x])) (h2:rdRange t=(0,0,[y])) (hx:isBet x=false) (hy:isBet y=false) (hl:s.length+t.length+2<=200):rdRange (s++([32]++t))=(0,0,[x++y]):=by
 have a1:=(range_take s (by rw [h1])).1
 have a2:=(range_take t (by rw [h2])).1
 rw [h1] at a1
 rw [h2] at a2
 exact range_give (rt_blank a1 a2 hx hy) (by simp only [List.length_append,List.length_cons,List.length_nil];omega)
set_option maxRecDepth 100000 in
set_option maxHeartbeats 1600000 in
theorem rangeSetsLaw (s t:ByteArray) (w:World) (hs:s.size < 2 ^ 50) (ht:t.size < 2 ^ 50) :
  Calls Tryz.prog 7 #[.string s,.string t] w fun e w'=>e=.returned (.bool true)/\w.grownBy w' none:=by
 have CP:Hid (∀w,Calls Tryz.prog 11 #[.string s] w (ParsePost (rdRange s.data.toList) w)):=fun w=>rparse_any s w (by omega)
 have CQ:Hid (∀w,Calls Tryz.prog 11 #[.string t] w (ParsePost (rdRange t.data.toList) w)):=fun w=>rparse_any t w (by omega)
 have CR:Hid (∀w,Calls Tryz.prog 12 #[.string s] w (RRPost (rdRange s.data.toList) w)):=fun w=>readRange_any s w (by omega)
 have CT:Hid (∀w,Calls Tryz.prog 12 #[.string t] w (RRPost (rdRange t.data.toList) w)):=fun w=>readRange_any t w (by omega)
 have CN:Hid (∀n w,Calls Tryz.prog 13 #[.int .i64 n] w fun e w'=>e=.returned (.int .i64 n)/\w.grownBy w' none):=fun n w=>lnum_gb n w
 obtain ⟨E,K,S,hR⟩:∃E K S,rdRange s.data.toList=(E,K,S):=⟨_,_,_,rfl⟩
 obtain ⟨F,J,U,hQ⟩:∃E K S,rdRange t.data.toList=(E,K,S):=⟨_,_,_,rfl⟩
 have HR:Hid (rdRange s.data.toList=(E,K,S)):=hR
 have HQ:Hid (rdRange t.data.toList=(F,J,U)):=hQ
 rw [hR] at CP CR
 rw [hQ] at CQ CT
 have nE:(E != E)=false:=by simp
 have nF:(F != F)=false:=by simp
 clear hR hQ
 go_enter Tryz.func7,Tryz.ntmps7
 go_wp2_with (first | (go_at_call 11;refine (CP.out _).mono ?_))
 rintro e w1 ⟨o,n,c,rfl,hg,-,hok⟩
 have HG:Hid (w.grownBy w1 none):=hg
 have HL:Hid (E=0->∃T,SpS w1 (.slice o n c) (outs T)/\LOk (outs T) 70000/\NT T 2/\Has (outs T) (admS S)):=fun h=>by
  obtain ⟨T,h1,h2⟩:=hok h
  exact ⟨T,h1.sps,h2⟩
 clear hg hok
 simp only [] at *
 go_wp2_with (first | (go_at_call 11;refine (CQ.out _).mono ?_))
 rintro e w2 ⟨o',n',c',rfl,hg,-,hok⟩
 replace HG:Hid (w.grownBy w2 none):=gb_trans HG.out hg
 replace HL:Hid (E=0->∃T,SpS w2 (.slice o n c) (outs T)/\LOk (outs T) 70000/\NT T 2/\Has (outs T) (admS S)):=fun h=>by
  obtain ⟨T,h1,h2⟩:=HL.out h
  exact ⟨T,h1.grow hg,h2⟩
 have HM:Hid (F=0->∃T,SpS w2 (.slice o' n' c') (outs T)/\LOk (outs T) 70000/\NT T 2/\Has (outs T) (admS U)):=fun h=>by
  obtain ⟨T,h1,h2⟩:=hok h
  exact ⟨T,h1.sps,h2⟩
 clear hg hok
 simp only [] at *
 go_wp2_with (first | (go_at_call 12;refine (CR.out _).mono ?_))
 rintro e w3 ⟨o3,n3,c3,Q,rfl,hg,hrr⟩
 replace HG:Hid (w.grownBy w3 none):=gb_trans HG.out hg
 replace HL:Hid (E=0->∃T,SpS w3 (.slice o n c) (outs T)/\LOk (outs T) 70000/\NT T 2/\Has (outs T) (admS S)):=fun h=>by
  obtain ⟨T,h1,h2⟩:=HL.out h
  exact ⟨T,h1.grow hg,h2⟩
 replace HM:Hid (F=0->∃T,SpS w3 (.slice o' n' c') (outs T)/\LOk (outs T) 70000/\NT T 2/\Has (outs T) (admS U)):=fun h=>by
  obtain ⟨T,h1,h2⟩:=HM.out h
  exact ⟨T,h1.grow hg,h2⟩
 have HX:Hid (E=0->SsAt w3 (.slice o3 n3 c3) Q/\Q.map (·.map teOf)=S/\Q.length<=201/\∀L ∈ Q,L.length<=1000/\∀x ∈ L,TqOk x):=fun h=>by
  obtain ⟨h1,h2,h3,h4⟩:=hrr h
  exact ⟨oa_ss h1,h2,h3,h4⟩
 clear hg hrr
 simp only [] at *
 go_wp2_with (first | (go_at_call 12;refine (CT.out _).mono ?_))
 rintro e w4 ⟨o4,n4,c4,Q',rfl,hg,hrr⟩
 replace HG:Hid (w.grownBy w4 none):=gb_trans HG.out hg
 replace HL:Hid (E=0->∃T,SpS w4 (.slice o n c) (outs T)/\LOk (outs T) 70000/\NT T 2/\Has (outs T) (admS S)):=fun h=>by
  obtain ⟨T,h1,h2⟩:=HL.out h
  exact ⟨T,h1.grow hg,h2⟩
 replace HM:Hid (F=0->∃T,SpS w4 (.slice o' n' c') (outs T)/\LOk (outs T) 70000/\NT T 2/\Has (outs T) (admS U)):=fun h=>by
  obtain ⟨T,h1,h2⟩:=HM.out h
  exact ⟨T,h1.grow hg,h2⟩
 replace HX:Hid (E=0->SsAt w4 (.slice o3 n3 c3) Q/\Q.map (·.map teOf)=S/\Q.length<=201/\∀L ∈ Q,L.length<=1000/\∀x ∈ L,TqOk x):=fun h=>⟨(HX.out h).1.grow hg,(HX.out h).2⟩
 have HY:Hid (F=0->SsAt w4 (.slice o4 n4 c4) Q'/\Q'.map (·.map teOf)=U/\Q'.length<=201/\∀L ∈ Q',L.length<=1000/\∀x ∈ L,TqOk x):=fun h=>by
  obtain ⟨h1,h2,h3,h4⟩:=hrr h
  exact ⟨oa_ss h1,h2,h3,h4⟩
 clear hg hrr
 simp only [] at *
 have HW4:Hid (w4.grownBy w4 none):=gb_refl _ _
 by_cases hE:E=0
 ·subst hE
  by_cases hF:F=0
  ·subst hF
   by_cases hlen:s.size+t.size+2<=200
   ·have hl1:s.data.toList.length=s.size:=by simp
    have hl2:t.data.toList.length=t.size:=by simp
    have K0:K=0:=by
     have h:=(range_take s.data.toList (by rw [HR.out])).1
     have h2:=range_give h (by omega)
     rw [HR.out] at h2
     injection h2 with _ h2
     injection h2
    have J0:J=0:=by
     have h:=(range_take t.data.toList (by rw [HQ.out])).1
     have h2:=range_give h (by omega)
     rw [HQ.out] at h2
     injection h2 with _ h2
     injection h2
    subst K0 J0
    have hj:=set_join HR.out HQ.out (by omega)
    obtain ⟨Y1,Z1,eZ1,aY1,aZ1⟩:=add_y s t [124,124] (by simp only [List.length_cons,List.length_nil];omega)
    obtain ⟨Y2,Z2,eZ2,aY2,aZ2⟩:=add_y s t [32] (by simp only [List.length_cons,List.length_nil];omega)
    have bY1:∀wx,(Op.stringOp .add s ⟨#[124,124]⟩).run Tryz.prog wx=.ok (.string Y1) wx:=aY1
    have bY2:∀wx,(Op.stringOp .add s ⟨#[32]⟩).run Tryz.prog wx=.ok (.string Y2) wx:=aY2
    have sz1:Z1.size < 2 ^ 42:=by
     have:Z1.data.toList.length=Z1.size:=by simp
     rw [eZ1] at this
     simp only [List.length_append,List.length_cons,List.length_nil] at this
     omega
    have sz2:Z2.size < 2 ^ 42:=by
     have:Z2.data.toList.length=Z2.size:=by simp
     rw [eZ2] at this
     simp only [List.length_append,List.length_cons,List.length_nil] at this
     omega
    have C1:Hid (∀w,Calls Tryz.prog 11 #[.string Z1] w (ParsePost (0,0,S++U) w)):=fun w=>by
     have:=rparse_any Z1 w (by omega)
     rw [eZ1,hj] at this
     exact this
    have C2:Hid (∀w,Calls Tryz.prog 12 #[.string Z2] w (RRPost (rdRange Z2.data.toList) w)):=fun w=>readRange_any Z2 w (by omega)
    have C3:Hid (∀w,Calls Tryz.prog 11 #[.string Z2] w (ParsePost (rdRange Z2.data.toList) w)):=fun w=>rparse_any Z2 w (by omega)
    have HZ2:Hid (∀x y,S=[x]->U=[y]->isBet x=false->isBet y=false->rdRange Z2.data.toList=(0,0,[x++y])):=fun x y h1 h2 h3 h4=>by
     rw [eZ2]
     have a1:=HR.out
     have a2:=HQ.out
     rw [h1] at a1
     rw [h2] at a2
     exact set_meet a1 a2 h3 h4 (by omega)
    obtain ⟨T,t1,t2,t3,t4⟩:=HL.out rfl
    obtain ⟨T',u1,u2,u3,u4⟩:=HM.out rfl
    have CJ:Hid (∀w',w4.grownBy w' none->Calls Tryz.prog 24 #[.slice o n c,.slice o' n' c'] w' (TPost (fun x=>holdsL (outs T) x || holdsL (outs T') x) 2 w')):=fun w' h=>cJoinT _ _ _ _ w' (t1.grow h) (u1.grow h) (by have:=t2.ln;omega) t2.sm (by have:=u2.ln;omega) u2.sm t2.sd u2.sd
    have CM:Hid (∀w',w4.grownBy w' none->Calls Tryz.prog 26 #[.slice o n c,.slice o' n' c'] w' (TPost (fun x=>holdsL (outs T) x && holdsL (outs T') x) 2 w')):=fun w' h=>cMeetT _ _ _ _ w' (t1.grow h) (u1.grow h) (by have:=t2.ln;omega) t2.sm (by have:=u2.ln;omega) u2.sm t2.sd u2.sd
    have HJ:Hid (∀T1 T2:List V,NT T1 2->Has (outs T1) (admS (S++U))->NT T2 2->(∀x,holdsL (outs T2) x=(holdsL (outs T) x || holdsL (outs T') x))->outs T1=outs T2):=fun T1 T2 h1 h2 h3 h4=>by
     rw [nt_one h1 h3 (fun v hv=>by rw [h2 v hv,h4 v,t4 v hv,u4 v hv,admS_app])]
    have HJ2:Hid (∀x y (T1 T2:List V),S=[x]->U=[y]->NT T1 2->Has (outs T1) (admS [x++y])->NT T2 2->(∀x,holdsL (outs T2) x=(holdsL (outs T) x && holdsL (outs T') x))->outs T1=outs T2):=fun x y T1 T2 hx hy h1 h2 h3 h4=>by
     rw [nt_one h1 h3 (fun v hv=>by rw [h2 v hv,h4 v,t4 v hv,u4 v hv,hx,hy,admL_app])]
    have CE:Hid (∀a b (N:List Sp) w,SpS w a N->SpS w b N->N.length<=70000->Calls Tryz.prog 16 #[a,b] w fun e w'=>e=.returned (.bool true)/\w.grownBy w' none):=fun a b N w h h' hl=>cEqual a b N w h h' (by omega)
    obtain ⟨x1,x2,x3,x4⟩:=HX.out rfl
    obtain ⟨y1,y2,y3,y4⟩:=HY.out rfl
    have sx:=ss_slice x1
    have sy:=ss_slice y1
    obtain ⟨rfl,sx⟩:=sx
    obtain ⟨rfl,sy⟩:=sy
    have HXQ:Hid (Q.length=1->∃a sl x,o3=some a/\1<=c3/\w4.cell? a=some sl/\TsAt w4 sl x/\x.length<=1000/\S=[x.map teOf]):=fun h=>by
     obtain ⟨a,sl,h1,h2,h3,h4⟩:=sx h
     refine ⟨a,sl,Q[0]'(by omega),h1,by omega,h3,h4 (by omega),(x4 _ (List.getElem_mem _)).1,?_⟩
     rw [<-x2]
     match Q,h with
     | [q],_=>rfl
    have HYQ:Hid (Q'.length=1->∃a sl x,o4=some a/\1<=c4/\w4.cell? a=some sl/\TsAt w4 sl x/\x.length<=1000/\U=[x.map teOf]):=fun h=>by
     obtain ⟨a,sl,h1,h2,h3,h4⟩:=sy h
     refine ⟨a,sl,Q'[0]'(by omega),h1,by omega,h3,h4 (by omega),(y4 _ (List.getElem_mem _)).1,?_⟩
     rw [<-y2]
     match Q',h with
     | [q],_=>rfl
    have CB:Hid (∀(sl:Value) (L:List Tq) (w:World),TsAt w sl L->L.length<=1000->Calls Tryz.prog 25 #[sl] w fun e w'=>e=.returned (.bool (betQ L))/\w.grownBy w' none):=fun sl L w h h'=>between_ts sl L w h h'
    obtain ⟨m,hm⟩:∃m,Q.length=m:=⟨_,rfl⟩
    obtain ⟨m',hm'⟩:∃m,Q'.length=m:=⟨_,rfl⟩
    rw [hm] at x3 HXQ ⊢
    rw [hm'] at y3 HYQ ⊢
    clear hj aY1 aY2 eZ1 eZ2 sz1 sz2 t1 t2 t3 t4 u1 u2 u3 u4 HL HM HX HY x1 x2 x4 y1 y2 y4 sx sy hm hm' hl1 hl2 HR HQ
    go_wp2_with (first | (go_at_call 13;refine (CN.out _ _).mono ?_;rintro e wc ⟨rfl,hgc⟩;replace HW4:Hid (w4.grownBy wc none):=gb_trans HW4.out hgc;clear hgc) | (go_at_call 11;refine (C1.out _).mono ?_))
    rintro e w5 ⟨o5,n5,c5,rfl,hg,-,hok⟩
    obtain ⟨T1,v1,v2,v3,v4⟩:=hok rfl
    replace HW4:Hid (w4.grownBy w5 none):=gb_trans HW4.out hg
    have HN1:Hid (SpS w5 (.slice o5 n5 c5) (outs T1)):=v1.sps
    clear hg hok v1
    simp only [] at *
    go_wp2_with (first | (go_at_call 24;refine (CJ.out _ HW4.out).mono ?_))
    rintro e w6 ⟨hg,o6,n6,c6,T2,rfl,j1,j2,j3⟩
    have hTT:=HJ.out T1 T2 v3 v4 j2 j3
    replace HW4:Hid (w4.grownBy w6 none):=gb_trans HW4.out hg
    have CE1:Hid (Calls Tryz.prog 16 #[.slice o5 n5 c5,.slice o6 n6 c6] w6 fun e w'=>e=.returned (.bool true)/\w6.grownBy w' none):=CE.out _ _ (outs T1) w6 (HN1.out.grow hg) (by rw [hTT];exact j1) v2.ln
    clear hg v2 v3 v4 j1 j2 j3 hTT HN1 HJ CJ C1
    go_wp2_with (first | (go_at_call 16;refine CE1.out.mono ?_))
    rintro e w7 ⟨rfl,hg⟩
    replace HW4:Hid (w4.grownBy w7 none):=gb_trans HW4.out hg
    clear hg CE1
    go_wp2_with (first | (go_at_call 13;refine (CN.out _ _).mono ?_;rintro e wc ⟨rfl,hgc⟩;replace HW4:Hid (w4.grownBy wc none):=gb_trans HW4.out hgc;clear hgc) | (go_at_call 12;refine (C2.out _).mono ?_))
    rintro e w8 ⟨o8,n8,c8,Q8,rfl,hg,-⟩
    replace HW4:Hid (w4.grownBy w8 none):=gb_trans HW4.out hg
    clear hg C2
    obtain ⟨E8,K8,S8,hR8⟩:∃E K S,rdRange Z2.data.toList=(E,K,S):=⟨_,_,_,rfl⟩
    rw [hR8] at C3 HZ2 ⊢
    simp only [] at *
    by_cases m1:m=1
    ·subst m1
     obtain ⟨ax,slx,Lx,rfl,hcx,cx,tx,lx,hSx⟩:=HXQ.out rfl
     by_cases m2:m'=1
     ·subst m2
      obtain ⟨ay,sly,Ly,rfl,hcy,cy,ty,ly,hUy⟩:=HYQ.out rfl
      by_cases e8:E8=0
      ·subst e8
       have HCX:Hid (w8.cell? ax=some slx/\w8.cell? ay=some sly):=⟨HW4.out.cell cx (by simp),HW4.out.cell cy (by simp)⟩
       have BX:Hid (∀w',w8.grownBy w' none->Calls Tryz.prog 25 #[slx] w' fun e w''=>e=.returned (.bool (betQ Lx))/\w'.grownBy w'' none):=fun w' h=>CB.out slx Lx w' (tx.grow (gb_trans HW4.out h)) lx
       have BY':Hid (∀w',w8.grownBy w' none->Calls Tryz.prog 25 #[sly] w' fun e w''=>e=.returned (.bool (betQ Ly))/\w'.grownBy w'' none):=fun w' h=>CB.out sly Ly w' (ty.grow (gb_trans HW4.out h)) ly
       have HZ3:Hid (betQ Lx=false->betQ Ly=false->rdRange Z2.data.toList=(0,0,[Lx.map teOf++Ly.map teOf])):=fun h1 h2=>by
        rw [hR8]
        exact HZ2.out _ _ hSx hUy h1 h2
       have HJ3:Hid (∀T1 T2:List V,NT T1 2->Has (outs T1) (admS [Lx.map teOf++Ly.map teOf])->NT T2 2->(∀x,holdsL (outs T2) x=(holdsL (outs T) x && holdsL (outs T') x))->outs T1=outs T2):=fun T1 T2 h1 h2 h3 h4=>HJ2.out _ _ T1 T2 hSx hUy h1 h2 h3 h4
       have HS8:Hid (betQ Lx=false->betQ Ly=false->K8=0/\S8=[Lx.map teOf++Ly.map teOf]):=fun h1 h2=>by
        have:=HZ2.out _ _ hSx hUy h1 h2
        injection this with _ h
        injection h with h3 h4
        exact ⟨h3,h4⟩
       clear HZ2 HZ3 HJ2 hSx hUy cx cy tx ty lx ly HXQ HYQ CB hR8
       obtain ⟨βx,hβx⟩:∃β,betQ Lx=β:=⟨_,rfl⟩
       obtain ⟨βy,hβy⟩:∃β,betQ Ly=β:=⟨_,rfl⟩
       rw [hβx] at BX HS8
       rw [hβy] at BY' HS8
       have hcc:=HCX.out.1
       have hcd:=HCX.out.2
       clear hβx hβy
       cases βx with
       | true =>
        clear BY' HS8 hcd
        go_wp2_with (first | (go_at_call 25;refine (BX.out _ (gb_refl _ _)).mono ?_;rintro e wd ⟨rfl,hgd⟩))
        go_ret
        exact ⟨rfl,gb_trans HG.out (gb_trans HW4.out hgd)⟩
       | false =>
        cases βy with
        | true =>
         clear HS8
         go_wp2_with (first | (go_at_call_of 25 slx;refine (BX.out _ (gb_refl _ _)).mono ?_;rintro e wd ⟨rfl,hgd⟩;have hce:=(hgd.cell hcd (by simp))) | (go_at_call_of 25 sly;refine (BY'.out _ hgd).mono ?_;rintro e we ⟨rfl,hge⟩))
         go_ret
         exact ⟨rfl,gb_trans HG.out (gb_trans HW4.out (gb_trans hgd hge))⟩
        | false =>
         obtain ⟨hk,hs8⟩:=HS8.out rfl rfl
         subst hk hs8
         clear HS8
         go_wp2_with (first | (go_at_call_of 25 slx;refine (BX.out _ (gb_refl _ _)).mono ?_;rintro e wd ⟨rfl,hgd⟩;have hce:=(hgd.cell hcd (by simp))) | (go_at_call_of 25 sly;refine (BY'.out _ hgd).mono ?_;rintro e we ⟨rfl,hge⟩) | (go_at_call 11;refine (C3.out _).mono ?_))
         rintro e w9 ⟨o9,n9,c9,rfl,hg,-,hok⟩
         obtain ⟨T3,v1,v2,v3,v4⟩:=hok rfl
         replace HW4:Hid (w4.grownBy w9 none):=gb_trans HW4.out (gb_trans hgd (gb_trans hge hg))
         have HN1:Hid (SpS w9 (.slice o9 n9 c9) (outs T3)):=v1.sps
         clear hg hgd hge hce hcc hcd hok v1
         simp only [] at *
         go_wp2_with (first | (go_at_call 26;refine (CM.out _ HW4.out).mono ?_))
         rintro e wf ⟨hg,of_,nf,cf,T4,rfl,j1,j2,j3⟩
         have hTT:=HJ3.out T3 T4 v3 v4 j2 j3
         replace HW4:Hid (w4.grownBy wf none):=gb_trans HW4.out hg
         have CE1:Hid (Calls Tryz.prog 16 #[.slice o9 n9 c9,.slice of_ nf cf] wf fun e w'=>e=.returned (.bool true)/\wf.grownBy w' none):=CE.out _ _ (outs T3) wf (HN1.out.grow hg) (by rw [hTT];exact j1) v2.ln
         clear hg v2 v3 v4 j1 j2 j3 hTT HN1
         go_wp2_with (first | (go_at_call 16;refine CE1.out.mono ?_;rintro e wg ⟨rfl,hgg⟩) | (go_at_call 13;refine (CN.out _ _).mono ?_;rintro e wh ⟨rfl,hgh⟩))
         go_ret
         exact ⟨rfl,gb_trans HG.out (gb_trans HW4.out (gb_trans hgg hgh))⟩
      ·have e8':(E8 == 0)=false:=by simp [e8]
       clear HXQ HYQ HZ2 HJ2 CB cx cy tx ty hSx hUy hR8 C3
       go_wp2
       go_ret
       exact ⟨rfl,gb_trans HG.out HW4.out⟩
     ·have m2':((m':Int) == 1)=false:=by simp;omega
      clear HXQ HYQ HZ2 HJ2 CB cx tx hSx hR8 C3
      go_wp2
      go_ret
      exact ⟨rfl,gb_trans HG.out HW4.out⟩
    ·have m1':((m:Int) == 1)=false:=by simp;omega
     clear HXQ HYQ HZ2 HJ2 CB hR8 C3
     go_wp2
     go_ret
     exact ⟨rfl,gb_trans HG.out HW4.out⟩
   ·clear HL HM HX HY HR HQ
    have hl3:¬ ((s.size:Int)+(t.size:Int)+2<=200):=by omega
    go_wp2_with (first | (go_at_call 13;refine (CN.out _ _).mono ?_;rintro e wc ⟨rfl,hgc⟩;replace HW4:Hid (w4.grownBy wc none):=gb_trans HW4.out hgc;clear hgc))
    go_ret
    exact ⟨rfl,gb_trans HG.out HW4.out⟩
  ·have hF':(F == 0)=false:=by simp [hF]
   have hF2:(F != 0)=true:=by simp [hF]
   clear HL HM HX HY HR HQ hF
   go_wp2_with (first | (go_at_call 13;refine (CN.out _ _).mono ?_;rintro e wc ⟨rfl,hgc⟩;replace HW4:Hid (w4.grownBy wc none):=gb_trans HW4.out hgc;clear hgc))
   go_ret
   exact ⟨rfl,gb_trans HG.out HW4.out⟩
 ·have hE':(E == 0)=false:=by simp [hE]
  have hE2:(E != 0)=true:=by simp [hE]
  clear HL HM HX HY HR HQ hE
  go_wp2_with (first | (go_at_call 13;refine (CN.out _ _).mono ?_;rintro e wc ⟨rfl,hgc⟩;replace HW4:Hid (w4.grownBy wc none):=gb_trans HW4.out hgc;clear hgc))
  go_ret
  exact ⟨rfl,gb_trans HG.out HW4.out⟩
end Go.Proofs.YtonfldbigenfhaaGreatDoor
