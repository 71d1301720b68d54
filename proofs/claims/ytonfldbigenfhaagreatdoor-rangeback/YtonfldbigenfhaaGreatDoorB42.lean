import Derived.Test.YtonfldbigenfhaaGreatDoorB19
import Derived.Test.YtonfldbigenfhaaGreatDoorB22
import Derived.Test.YtonfldbigenfhaaGreatDoorB32
import Derived.Test.YtonfldbigenfhaaGreatDoorB41
namespace Go.Proofs.YtonfldbigenfhaaGreatDoor
open Go.RowKit
set_option linter.unusedVariables false
theorem norm_self {T:List V} {k:Nat} (hT:NT T k):outs (tog (holdsL (outs T)) false (bnd (outs T)))=outs T:=by
 have hD:Rising (bnd (outs T)):=bnd_rising (outs T) [] List.Pairwise.nil
 have hok:=bnd_ok (outs T) [] hT.sound (fun d hd=>by simp at hd)
 have hsub:=tog_sub_list (holdsL (outs T)) (bnd (outs T)) false
 have hup:Rising (tog (holdsL (outs T)) false (bnd (outs T))):=List.Pairwise.sublist hsub hD
 have key:∀x,par (tog (holdsL (outs T)) false (bnd (outs T))) x=par T x:=by
  intro x
  rw [par_tog _ x _ _ hD,Bool.false_xor,<-outs_par T hT.up]
  rcases last_spec (holdsL (outs T)) x (bnd (outs T)) false hD with ⟨h1,h2⟩ | ⟨z,hz,h1,h2,h3⟩
  ·rw [h2]
   symm
   unfold holdsL
   rw [List.any_eq_false]
   intro s hs h
   have h4:hasG (toSg s) x=true:=h
   rw [has_iff] at h4
   obtain ⟨d,hd,h0⟩:=(bnd_has (outs T) [] s hs).1
   have hdx:=h1 d hd
   have a:=v_anti (qFrom s) d
   refine h4.1 ?_
   show verC x (qFrom s) < 0
   exact v_lt_le hdx (by omega)
  ·rw [h3]
   unfold holdsL
   rw [Bool.eq_iff_iff,List.any_eq_true,List.any_eq_true]
   have hs2:∀s ∈ outs T,hasS s x=hasS s z:=fun s hs=>by
    have hb:=bnd_has (outs T) [] s hs
    exact has_same (g:=toSg s) h1 h2 hb.1 (fun h=>hb.2 (by intro h';rw [show (toSg s).op=s.o from rfl,h'] at h;cases h))
   exact ⟨fun ⟨s,hs,h⟩=>⟨s,hs,by rw [hs2 s hs];exact h⟩,fun ⟨s,hs,h⟩=>⟨s,hs,by rw [<-hs2 s hs];exact h⟩⟩
 by_cases e:tog (holdsL (outs T)) false (bnd (outs T))=T
 ·rw [e]
 ·exfalso
  obtain ⟨t,ht,hn⟩:=par_one _ T hup hT.up (fun t ht=>hok t (hsub.subset ht)) hT.ok e
  exact hn (key t)
theorem rtext_size (N:List Sp) (h:∀s ∈ N,NSp s) (hl:N.length<=70000):(rText N).length < 2 ^ 50:=by
 have ht:∀s ∈ N,(tOf s).length<=2097300:=fun s hs=>by
  have h1:=(h s hs).lf
  have h2:=(h s hs).lt
  unfold tOf
  repeat' split
  all_goals simp only [List.length_append,List.length_cons,List.length_nil];omega
 unfold rText
 split
 ·decide
 ·have key:∀(M:List Sp),(∀s ∈ M,(tOf s).length<=2097300)->(Lib.join (M.map tOf) sepT).length<=2097304 * M.length:=by
   intro M
   induction M with
   | nil=>intro _;simp [Lib.join_nil]
   | cons a M ih =>
    intro hM
    have h1:=hM a (by simp)
    cases M with
    | nil=>rw [List.map_cons,List.map_nil,Lib.join_one];simp;omega
    | cons b M =>
     have h2:=ih (fun s hs=>hM s (by simp at hs ⊢;exact Or.inr hs))
     rw [List.map_cons,List.map_cons,join_two,<-List.map_cons]
     simp only [List.length_append,List.length_cons] at h2 ⊢
     omega
  have:=key N ht
  omega
set_option maxRecDepth 100000 in
set_option maxHeartbeats 3200000 in
theorem rangeBackLaw (s:ByteArray) (w:World) (ht:Tab w) (hs:s.size < 2 ^ 60) :
  Calls Tryz.prog 6 #[.string s] w fun e w'=>e=.returned (.bool true)/\w.grownBy w' none:=by
 have CP:Hid (∀w,Calls Tryz.prog 11 #[.string s] w (ParsePost (rdRange s.data.toList) w)):=fun w=>rparse_any s w (by omega)
 have CR:Hid (∀w,Calls Tryz.prog 12 #[.string s] w (RRPost (rdRange s.data.toList) w)):=fun w=>readRange_any s w hs
 have CN:Hid (∀n w,Calls Tryz.prog 13 #[.int .i64 n] w fun e w'=>e=.returned (.int .i64 n)/\w.grownBy w' none):=fun n w=>lnum_gb n w
 have HTB:Hid (Tab w):=ht
 obtain ⟨E,K,S,hR⟩:∃E K S,rdRange s.data.toList=(E,K,S):=⟨_,_,_,rfl⟩
 rw [hR] at CP CR
 have nE:(E != E)=false:=by simp
 clear hR hs ht
 go_enter Tryz.func6,Tryz.ntmps6
 go_wp2_with (first | (go_at_call 11;refine (CP.out _).mono ?_))
 rintro e w1 ⟨o,n,c,rfl,hg,-,hok⟩
 have HG:Hid (w.grownBy w1 none):=hg
 have HL:Hid (E=0->∃T,SpS w1 (.slice o n c) (outs T)/\LOk (outs T) 70000/\NT T 2/\Has (outs T) (admS S)):=fun h=>by
  obtain ⟨T,h1,h2⟩:=hok h
  exact ⟨T,h1.sps,h2⟩
 clear hg hok
 simp only [] at *
 go_wp2_with (first | (go_at_call 12;refine (CR.out _).mono ?_))
 rintro e w2 ⟨o2,n2,c2,Q,rfl,hg,-⟩
 replace HG:Hid (w.grownBy w2 none):=gb_trans HG.out hg
 replace HL:Hid (E=0->∃T,SpS w2 (.slice o n c) (outs T)/\LOk (outs T) 70000/\NT T 2/\Has (outs T) (admS S)):=fun h=>by
  obtain ⟨T,h1,h2⟩:=HL.out h
  exact ⟨T,h1.grow hg,h2⟩
 clear hg
 simp only [] at *
 by_cases hE:E=0
 ·subst hE
  obtain ⟨T,t1,t2,t3,t4⟩:=HL.out rfl
  have hns:=nsp_outs t3
  have hln:=t2.ln
  have CX:Hid (∀a w,SpS w a (outs T)->Tab w->Calls Tryz.prog 23 #[a] w fun e w'=>e=.returned (.tuple #[.string ⟨(rText (outs T)).toArray⟩,.int .i64 0])/\w.grownBy w' none):=fun a w h htb=>by
   refine (textP_any a (outs T) (outs T) w h htb (norm_self t3) (by omega) (by omega) t2.sm).mono ?_
   rintro e w' ⟨hg,⟨h1,-⟩ | ⟨-,h2,-⟩⟩
   ·rw [t2.sd] at h1;cases h1
   ·exact ⟨h2,hg⟩
  have hsz:=rtext_size (outs T) hns hln
  have hb:=text_back t3
  obtain ⟨X,hX⟩:∃X,rText (outs T)=X:=⟨_,rfl⟩
  rw [hX] at CX hsz hb
  have el:(⟨X.toArray⟩:ByteArray).data.toList=X:=by simp
  have C1:Hid (∀w,Calls Tryz.prog 11 #[.string ⟨X.toArray⟩] w (ParsePost (rdRange X) w)):=fun w=>by
   have:=rparse_any ⟨X.toArray⟩ w (by show X.toArray.size < _;simp;omega)
   rw [el] at this
   exact this
  have C2:Hid (∀w,Calls Tryz.prog 12 #[.string ⟨X.toArray⟩] w (RRPost (rdRange X) w)):=fun w=>by
   have:=readRange_any ⟨X.toArray⟩ w (by show X.toArray.size < _;simp;omega)
   rw [el] at this
   exact this
  have CE:Hid (∀a b w,SpS w a (outs T)->SpS w b (outs T)->Calls Tryz.prog 16 #[a,b] w fun e w'=>e=.returned (.bool true)/\w.grownBy w' none):=fun a b w h h'=>cEqual a b _ w h h' (by omega)
  have HTT:Hid (∀(S':List (List Te)) (T':List V),(∀v,VOk v->admS S' v=holdsL (outs T) v)->NT T' 2->Has (outs T') (admS S')->outs T'=outs T):=fun S' T' h1 h2 h3=>by
   rw [nt_one h2 t3 (fun v hv=>by rw [h3 v hv,h1 v hv])]
  obtain ⟨F,J,U,hF⟩:∃F J U,rdRange X=(F,J,U):=⟨_,_,_,rfl⟩
  rw [hF] at C1 C2 hb
  obtain ⟨N,hN⟩:∃N,outs T=N:=⟨_,rfl⟩
  rw [hN] at CX CE HTT t1 hb
  have HB:Hid (F=1\/F=3\/(F=0/\J=0/\∀v,VOk v->admS U v=holdsL N v)):=by
   rcases hb with h | h | ⟨S',h,h'⟩
   ·exact Or.inl h
   ·exact Or.inr (Or.inl h)
   ·injection h with h1 h2
    injection h2 with h2 h3
    subst h3
    exact Or.inr (Or.inr ⟨h1,h2,h'⟩)
  have HL2:Hid (SpS w2 (.slice o n c) N):=t1
  have HTB2:Hid (Tab w2):=tab_grow HTB.out HG.out
  have nF:(F != F)=false:=by simp
  have xx:(X.toArray.toList == X.toArray.toList)=true:=by simp
  clear t1 t2 t3 t4 hns hln hsz hb el hF hN hX HL HTB
  go_wp2_with (first | (go_at_call 13;refine (CN.out _ _).mono ?_;rintro e wc ⟨rfl,hgc⟩;replace HG:Hid (w.grownBy wc none):=gb_trans HG.out hgc;replace HL2:Hid (SpS wc (.slice o n c) N):=HL2.out.grow hgc;replace HTB2:Hid (Tab wc):=tab_grow HTB2.out hgc;clear hgc) | (go_at_call 23;refine (CX.out _ _ HL2.out HTB2.out).mono ?_))
  rintro e w3 ⟨rfl,hg⟩
  replace HG:Hid (w.grownBy w3 none):=gb_trans HG.out hg
  replace HL2:Hid (SpS w3 (.slice o n c) N):=HL2.out.grow hg
  replace HTB2:Hid (Tab w3):=tab_grow HTB2.out hg
  clear hg
  go_wp2_with (first | (go_at_call 11;refine (C1.out _).mono ?_))
  rintro e w4 ⟨o4,n4,c4,rfl,hg,-,hok⟩
  replace HG:Hid (w.grownBy w4 none):=gb_trans HG.out hg
  replace HL2:Hid (SpS w4 (.slice o n c) N):=HL2.out.grow hg
  replace HTB2:Hid (Tab w4):=tab_grow HTB2.out hg
  have HM:Hid (F=0->∃T',SpS w4 (.slice o4 n4 c4) (outs T')/\NT T' 2/\Has (outs T') (admS U)):=fun h=>by
   obtain ⟨T',h1,h2,h3,h4⟩:=hok h
   exact ⟨T',h1.sps,h3,h4⟩
  clear hg hok
  simp only [] at *
  go_wp2_with (first | (go_at_call 12;refine (C2.out _).mono ?_))
  rintro e w5 ⟨o5,n5,c5,Q5,rfl,hg,-⟩
  replace HG:Hid (w.grownBy w5 none):=gb_trans HG.out hg
  replace HL2:Hid (SpS w5 (.slice o n c) N):=HL2.out.grow hg
  replace HTB2:Hid (Tab w5):=tab_grow HTB2.out hg
  replace HM:Hid (F=0->∃T',SpS w5 (.slice o4 n4 c4) (outs T')/\NT T' 2/\Has (outs T') (admS U)):=fun h=>by
   obtain ⟨T',h1,h2⟩:=HM.out h
   exact ⟨T',h1.grow hg,h2⟩
  clear hg
  simp only [] at *
  rcases HB.out with hf | hf | ⟨hf,hj,hu⟩
  ·subst hf
   clear HM HB
   go_wp2_with (first | (go_at_call 13;refine (CN.out _ _).mono ?_;rintro e wc ⟨rfl,hgc⟩;replace HG:Hid (w.grownBy wc none):=gb_trans HG.out hgc;clear hgc))
   go_ret
   exact ⟨rfl,HG.out⟩
  ·subst hf
   clear HM HB
   go_wp2_with (first | (go_at_call 13;refine (CN.out _ _).mono ?_;rintro e wc ⟨rfl,hgc⟩;replace HG:Hid (w.grownBy wc none):=gb_trans HG.out hgc;clear hgc))
   go_ret
   exact ⟨rfl,HG.out⟩
  ·subst hf hj
   obtain ⟨T',m1,m2,m3⟩:=HM.out rfl
   rw [HTT.out U T' hu m2 m3] at m1
   have HM2:Hid (SpS w5 (.slice o4 n4 c4) N):=m1
   clear HM HB hu m1 m2 m3
   go_wp2_with (first | (go_at_call 13;refine (CN.out _ _).mono ?_;rintro e wc ⟨rfl,hgc⟩;replace HG:Hid (w.grownBy wc none):=gb_trans HG.out hgc;replace HL2:Hid (SpS wc (.slice o n c) N):=HL2.out.grow hgc;replace HM2:Hid (SpS wc (.slice o4 n4 c4) N):=HM2.out.grow hgc;replace HTB2:Hid (Tab wc):=tab_grow HTB2.out hgc;clear hgc) | (go_at_call 23;refine (CX.out _ _ HM2.out HTB2.out).mono ?_))
   rintro e w6 ⟨rfl,hg⟩
   replace HG:Hid (w.grownBy w6 none):=gb_trans HG.out hg
   replace HL2:Hid (SpS w6 (.slice o n c) N):=HL2.out.grow hg
   replace HM2:Hid (SpS w6 (.slice o4 n4 c4) N):=HM2.out.grow hg
   clear hg
   go_wp2_with (first | (go_at_call 16;refine (CE.out _ _ _ HL2.out HM2.out).mono ?_;rintro e wg ⟨rfl,hgg⟩) | (go_at_call 13;refine (CN.out _ _).mono ?_;rintro e wh ⟨rfl,hgh⟩))
   go_ret
   exact ⟨rfl,gb_trans HG.out (gb_trans hgg hgh)⟩
 ·have hE':(E == 0)=false:=by simp [hE]
  have hE2:(E != 0)=true:=by simp [hE]
  clear HL hE
  go_wp2_with (first | (go_at_call 13;refine (CN.out _ _).mono ?_;rintro e wc ⟨rfl,hgc⟩;replace HG:Hid (w.grownBy wc none):=gb_trans HG.out hgc;clear hgc))
  go_ret
  exact ⟨rfl,HG.out⟩
end Go.Proofs.YtonfldbigenfhaaGreatDoor
