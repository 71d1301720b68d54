import Derived.Test.YtonfldbigenfhaaGreatDoorM42
import Derived.Test.YtonfldbigenfhaaGreatDoorM07
import Derived.Shelf.Strconv.Itoa3
import Derived.Test.YtonfldbigenfhaaGreatDoorProg
import Derived.Lib.LaidTab
import Derived.Test.YtonfldbigenfhaaGreatDoorM39
import Derived.Test.YtonfldbigenfhaaGreatDoorM25
import Derived.Test.YtonfldbigenfhaaGreatDoorM37
namespace Go.Proofs.YtonfldbigenfhaaGreatDoor
open Go.RowKit Go.Shelf
set_option linter.unusedVariables false
theorem text_steps (a1 a2 a3:Int) (a4 a5:List UInt8) (b1:-9223372036854775808<=a1/\a1<=9223372036854775807) (b2:-9223372036854775808<=a2/\a2<=9223372036854775807) (b3:-9223372036854775808<=a3/\a3<=9223372036854775807) (h4:a4.length < 2 ^ 60) (h5:a5.length < 2 ^ 60) :
  ∃T1 T2 T3 X1 X2 X3 X4:List UInt8,T1=Lib.itoa a1/\T2=Lib.itoa a2/\T3=Lib.itoa a3 ∧
   (∀wx,(Op.stringOp .add ⟨T1.toArray⟩ ⟨#[46]⟩).run Tryz.prog wx=.ok (.string ⟨X1.toArray⟩) wx) ∧
   (∀wx,(Op.stringOp .add ⟨X1.toArray⟩ ⟨T2.toArray⟩).run Tryz.prog wx=.ok (.string ⟨X2.toArray⟩) wx) ∧
   (∀wx,(Op.stringOp .add ⟨X2.toArray⟩ ⟨#[46]⟩).run Tryz.prog wx=.ok (.string ⟨X3.toArray⟩) wx) ∧
   (∀wx,(Op.stringOp .add ⟨X3.toArray⟩ ⟨T3.toArray⟩).run Tryz.prog wx=.ok (.string ⟨X4.toArray⟩) wx) ∧
   X4.length < 2 ^ 62/\textV ⟨a1,a2,a3,a4,a5⟩=X4++(optT 45 a4++optT 43 a5):=by
 have l1:=itoa_len a1 b1.1 b1.2
 have l2:=itoa_len a2 b2.1 b2.2
 have l3:=itoa_len a3 b3.1 b3.2
 refine ⟨_,_,_,Lib.itoa a1++[46],Lib.itoa a1++[46]++Lib.itoa a2,Lib.itoa a1++[46]++Lib.itoa a2++[46],Lib.itoa a1++[46]++Lib.itoa a2++[46]++Lib.itoa a3,rfl,rfl,rfl,fun wx=>add_lists _ [46] wx ?_,fun wx=>add_lists _ _ wx ?_,fun wx=>add_lists _ [46] wx ?_,fun wx=>add_lists _ _ wx ?_,?_,?_⟩
 ·simp;omega
 ·simp;omega
 ·simp;omega
 ·simp;omega
 ·simp;omega
 ·simp [textV]
theorem ret_str {a b:List UInt8} (h:a=b):Ending.returned (.string ⟨a.toArray⟩)=.returned (.string ⟨b.toArray⟩):=by rw [h]
open Go.RowKit
set_option linter.unusedVariables false
theorem opt_step2 (c:UInt8) (X:List UInt8) (a:ByteArray) (h:X.length+a.size+1<=9223372036854775807) :
  ∃(Z Y:List UInt8),(∀wx,(Op.stringOp .add ⟨X.toArray⟩ ⟨#[c]⟩).run Tryz.prog wx=.ok (.string ⟨Z.toArray⟩) wx)/\(∀wx,(Op.stringOp .add ⟨Z.toArray⟩ a).run Tryz.prog wx=.ok (.string ⟨Y.toArray⟩) wx)/\Y=X++c :: a.data.toList/\Y.length=X.length+a.size+1:=by
 have ea:a=⟨a.data.toList.toArray⟩:=by cases a;simp
 have la:a.data.toList.length=a.size:=by simp
 refine ⟨X++[c],X++[c]++a.data.toList,fun wx=>add_lists X [c] wx (by simp only [List.length_cons,List.length_nil];omega),fun wx=>?_,by simp,by simp only [List.length_append,List.length_cons,List.length_nil,la];omega⟩
 conv=>lhs;rw [ea]
 exact add_lists (X++[c]) a.data.toList wx (by simp only [List.length_append,List.length_cons,List.length_nil,la];omega)
set_option maxHeartbeats 1600000 in
theorem rtext_any (a1 a2 a3:Int) (a4 a5:ByteArray) (w:World) (b1:-9223372036854775808<=a1/\a1<=9223372036854775807) (b2:-9223372036854775808<=a2/\a2<=9223372036854775807) (b3:-9223372036854775808<=a3/\a3<=9223372036854775807) (h4:a4.size < 2 ^ 60) (h5:a5.size < 2 ^ 60) :
  Calls Tryz.prog 30 #[.agg #[.int .i64 a1,.int .i64 a2,.int .i64 a3,.string a4,.string a5]] w fun e w'=>e=.returned (.string ⟨(textV ⟨a1,a2,a3,a4.data.toList,a5.data.toList⟩).toArray⟩)/\w.grownBy w' none:=by
 obtain ⟨T1,T2,T3,X1,X2,X3,X4,e1,e2,e3,d1,d2,d3,d4,hl,hx⟩:=text_steps a1 a2 a3 a4.data.toList a5.data.toList b1 b2 b3 (by simpa using h4) (by simpa using h5)
 have I1:Hid (∀w,Calls Tryz.prog 52 #[.int .i64 a1] w fun e w'=>e=.returned (.string ⟨T1.toArray⟩)/\Below w.heap.size w w'):=fun w=>by rw [e1];exact decimal_any a1 w b1.1 b1.2
 have I2:Hid (∀w,Calls Tryz.prog 52 #[.int .i64 a2] w fun e w'=>e=.returned (.string ⟨T2.toArray⟩)/\Below w.heap.size w w'):=fun w=>by rw [e2];exact decimal_any a2 w b2.1 b2.2
 have I3:Hid (∀w,Calls Tryz.prog 52 #[.int .i64 a3] w fun e w'=>e=.returned (.string ⟨T3.toArray⟩)/\Below w.heap.size w w'):=fun w=>by rw [e3];exact decimal_any a3 w b3.1 b3.2
 obtain ⟨R,hR⟩:∃R,R=textV ⟨a1,a2,a3,a4.data.toList,a5.data.toList⟩:=⟨_,rfl⟩
 rw [<-hR]
 have HR:Hid (R=X4++(optT 45 a4.data.toList++optT 43 a5.data.toList)):=by show R=_;rw [hR,hx]
 have GB:Hid (∀{u v:World},Below u.heap.size u v->u.grownBy v none):=fun h=>⟨h.os,h.tape,h.output,h.size,fun k hk _=>h.block k hk⟩
 clear e1 e2 e3 hx b1 b2 b3 hR
 go_enter Tryz.func30,Tryz.ntmps30
 go_wp2_with (go_at_call 52;refine (I1.out _).mono ?_)
 rintro e w1 ⟨rfl,hb⟩
 obtain ⟨A,hA⟩:∃A,w.heap.size=A:=⟨_,rfl⟩
 have STa:Hid (St A a1 a2 a3 a4 a5 w1):=by
  show St A a1 a2 a3 a4 a5 w1
  rw [<-hA];exact (st_row (t:=39) (heap_alloc_new w _)).grow (GB.out hb)
 have HG:Hid (w.grownBy w1 none):=gb_trans (gb_alloc (gb_refl w none) _) (GB.out hb)
 rw [hA]
 clear hA hb
 obtain ⟨s1,s2,s3,s4,s5⟩:=STa.out
 go_wp2_with (go_at_call 52;refine (I2.out _).mono ?_)
 rintro e w2 ⟨rfl,hb⟩
 replace STa:Hid (St A a1 a2 a3 a4 a5 w2):=STa.out.grow (GB.out hb)
 replace HG:Hid (w.grownBy w2 none):=gb_trans HG.out (GB.out hb)
 clear hb s1 s2 s3 s4 s5
 obtain ⟨s1,s2,s3,s4,s5⟩:=STa.out
 go_wp2_with (go_at_call 52;refine (I3.out _).mono ?_)
 rintro e w3 ⟨rfl,hb⟩
 replace STa:Hid (St A a1 a2 a3 a4 a5 w3):=STa.out.grow (GB.out hb)
 replace HG:Hid (w.grownBy w3 none):=gb_trans HG.out (GB.out hb)
 clear hb s1 s2 s3 s4 s5
 obtain ⟨-,-,-,s4,s5⟩:=STa.out
 obtain ⟨Z4,Y4,p4,y4,hY4,hY4l⟩:=opt_step2 45 X4 a4 (by omega)
 by_cases z4:a4.size=0
 ·have e4:=emp_t2 z4
  have o4:optT 45 a4.data.toList=[]:=by rw [List.length_eq_zero_iff.1 (show a4.data.toList.length=0 by simpa using z4)];rfl
  have HR4:Hid (R=X4++optT 43 a5.data.toList):=by show R=_;rw [HR.out,o4,List.nil_append]
  obtain ⟨Z5,Y5,p5,y5,hY5,hY5l⟩:=opt_step2 43 X4 a5 (by omega)
  clear p4 y4 hY4 hY4l o4 z4
  by_cases z5:a5.size=0
  ·have e5:=emp_t2 z5
   have o5:optT 43 a5.data.toList=[]:=by rw [List.length_eq_zero_iff.1 (show a5.data.toList.length=0 by simpa using z5)];rfl
   have HZ:Hid (R=X4):=by show R=_;rw [HR4.out,o5,List.append_nil]
   clear o5 z5 p5 y5 hY5 hY5l
   go_wp2
   go_ret
   exact ⟨ret_str HZ.out.symm,HG.out⟩
  ·have e5:=emp_f2 z5
   have o5:X4++optT 43 a5.data.toList=Y5:=by unfold optT;rw [if_neg (fun e=>z5 (by show a5.data.size=0;rw [<-Array.length_toList,e];rfl)),hY5]
   have HZ:Hid (R=Y5):=by show R=_;rw [HR4.out,o5]
   clear o5 z5 hY5 hY5l
   go_wp2
   go_ret
   exact ⟨ret_str HZ.out.symm,HG.out⟩
 ·have e4:=emp_f2 z4
  have o4:X4++(optT 45 a4.data.toList++optT 43 a5.data.toList)=Y4++optT 43 a5.data.toList:=by
   rw [<-List.append_assoc,hY4];congr 1;unfold optT;rw [if_neg (fun e=>z4 (by show a4.data.size=0;rw [<-Array.length_toList,e];rfl))]
  have HR4:Hid (R=Y4++optT 43 a5.data.toList):=by show R=_;rw [HR.out,o4]
  obtain ⟨Z5,Y5,p5,y5,hY5,hY5l⟩:=opt_step2 43 Y4 a5 (by omega)
  clear hY4 hY4l o4 z4
  by_cases z5:a5.size=0
  ·have e5:=emp_t2 z5
   have o5:optT 43 a5.data.toList=[]:=by rw [List.length_eq_zero_iff.1 (show a5.data.toList.length=0 by simpa using z5)];rfl
   have HZ:Hid (R=Y4):=by show R=_;rw [HR4.out,o5,List.append_nil]
   clear o5 z5 p5 y5 hY5 hY5l
   go_wp2
   go_ret
   exact ⟨ret_str HZ.out.symm,HG.out⟩
  ·have e5:=emp_f2 z5
   have o5:Y4++optT 43 a5.data.toList=Y5:=by unfold optT;rw [if_neg (fun e=>z5 (by show a5.data.size=0;rw [<-Array.length_toList,e];rfl)),hY5]
   have HZ:Hid (R=Y5):=by show R=_;rw [HR4.out,o5]
   clear o5 z5 hY5 hY5l
   go_wp2
   go_ret
   exact ⟨ret_str HZ.out.symm,HG.out⟩
open Go.RowKit
set_option linter.unusedVariables false
theorem add_z (X Y:List UInt8) (h:X.length+Y.length<=9223372036854775807):∃Z,Z=X++Y/\Z.length=X.length+Y.length/\∀wx,(Op.stringOp .add ⟨X.toArray⟩ ⟨Y.toArray⟩).run Tryz.prog wx=.ok (.string ⟨Z.toArray⟩) wx :=
 ⟨X++Y,rfl,List.length_append,fun wx=>add_lists X Y wx h⟩
theorem fits_yes (n:Int) (w:World) (h0:0<=n) (h1:n < 999999999):Calls Tryz.prog 27 #[.int .i64 n] w fun e w'=>e=.returned (.bool true)/\w.grownBy w' none:=by
 go_enter Tryz.func27,Tryz.ntmps27
 go_wp2
 go_ret
 exact ⟨rfl,gb_refl _ _⟩
theorem fits_no (n:Int) (w:World) (h:¬ (0<=n/\n < 999999999)):Calls Tryz.prog 27 #[.int .i64 n] w fun e w'=>e=.returned (.bool false)/\w.grownBy w' none:=by
 by_cases h0:0<=n
 ·have h1:¬ n < 999999999:=fun h2=>h ⟨h0,h2⟩
  clear h
  go_enter Tryz.func27,Tryz.ntmps27
  go_wp2
  go_ret
  exact ⟨rfl,gb_refl _ _⟩
 ·clear h
  go_enter Tryz.func27,Tryz.ntmps27
  go_wp2
  go_ret
  exact ⟨rfl,gb_refl _ _⟩
theorem three_any (a b c:Int) (w:World) (ha:0<=a/\a<=999999999) (hb:0<=b/\b<=999999999) (hc:0<=c/\c<=999999999) :
  Calls Tryz.prog 28 #[.int .i64 a,.int .i64 b,.int .i64 c] w fun e w'=>e=.returned (.string ⟨(textV ⟨a,b,c,[],[]⟩).toArray⟩)/\w.grownBy w' none:=by
 have CT:Hid (∀w,Calls Tryz.prog 30 #[.agg #[.int .i64 a,.int .i64 b,.int .i64 c,.string ⟨#[]⟩,.string ⟨#[]⟩]] w fun e w'=>e=.returned (.string ⟨(textV ⟨a,b,c,[],[]⟩).toArray⟩)/\w.grownBy w' none):=fun w=>rtext_any a b c ⟨#[]⟩ ⟨#[]⟩ w (by omega) (by omega) (by omega) (by decide) (by decide)
 obtain ⟨X,hX⟩:∃X,textV ⟨a,b,c,[],[]⟩=X:=⟨_,rfl⟩
 rw [hX] at CT ⊢
 clear hX
 go_enter Tryz.func28,Tryz.ntmps28
 go_wp2_with (first | (go_at_call 30;refine (CT.out _).mono ?_))
 rintro e w1 ⟨rfl,hg⟩
 go_wp2
 go_ret
 exact ⟨rfl,hg⟩
theorem doc_outs {Q:List (List Tq)} {S:List (List Te)} {T:List V} (h1:Q.map (·.map teOf)=S) (h2:Q.length<=201) (h3:∀L ∈ Q,L.length<=1000/\∀x ∈ L,TqOk x) (hT:NT T 2) (hH:Has (outs T) (admS S)):outs (tog (admQ Q) false (insAll [lowV] (tuA Q)))=outs T:=by
 have e1:admQ Q=admS S:=by funext v;rw [admQ_S,h1]
 have e2:insAll [lowV] (tuA Q)=tuD S:=by rw [tuA_S,h1];rfl
 have hl:=tuA_len Q h2 (fun L hL=>(h3 L hL).1)
 rw [tuA_S,h1] at hl
 have hdt:=doc_turns (S:=S) (fun L hL t ht=>by
  rw [<-h1] at hL
  obtain ⟨L',hL',rfl⟩:=List.mem_map.1 hL
  obtain ⟨x,hx,rfl⟩:=List.mem_map.1 ht
  have hq:=(h3 L' hL').2 x hx
  exact ⟨⟨hq.s0.1,hq.s0.2,hq.ok⟩,by have:=hq.sm;show x.p.data.toList.length<=_;simpa [signOr] using this⟩) (by omega)
 rw [e1,e2,nt_one hdt.1 hT (fun v hv=>by rw [hdt.2 v hv,hH v hv])]
theorem sps_len {w:World} {o:Option Addr} {n c:Nat} {L:List Sp} (h:SpS w (.slice o n c) L):n=L.length:=by
 rcases h with ⟨h,rfl⟩ | ⟨a,cap,h,_⟩
 ·cases h;rfl
 ·cases h;rfl
set_option maxRecDepth 100000 in
set_option maxHeartbeats 3200000 in
theorem alike_any (s t:ByteArray) (S U:List (List Te)) (w:World) (hs:s.size < 2 ^ 60) (ht:t.size < 2 ^ 60) (h1:rdRange s.data.toList=(0,0,S)) (h2:rdRange t.data.toList=(0,0,U)) :
  Calls Tryz.prog 29 #[.string s,.string t] w fun e w'=>∃b:Bool,e=.returned (.bool b)/\w.grownBy w' none/\((∀v,VOk v->admS S v=admS U v)->b=true):=by
 have CP:Hid (∀w,Calls Tryz.prog 11 #[.string s] w (ParsePost (0,0,S) w)):=fun w=>by rw [<-h1];exact rparse_any s w (by omega)
 have CQ:Hid (∀w,Calls Tryz.prog 11 #[.string t] w (ParsePost (0,0,U) w)):=fun w=>by rw [<-h2];exact rparse_any t w (by omega)
 have CR:Hid (∀w,Calls Tryz.prog 12 #[.string s] w (RRPost (0,0,S) w)):=fun w=>by rw [<-h1];exact readRange_any s w hs
 have CN:Hid (∀n w,Calls Tryz.prog 13 #[.int .i64 n] w fun e w'=>e=.returned (.int .i64 n)/\w.grownBy w' none):=fun n w=>lnum_gb n w
 have CSO:Hid (∀(sv:Value) (A:List (List Tq)) (w:World),SsAt w sv A->A.length<=201->(∀L ∈ A,L.length<=1000/\∀x ∈ L,TqOk x)->Calls Tryz.prog 15 #[sv] w fun e w'=>∃vo,e=.returned vo/\SpS w' vo (outs (tog (admQ A) false (insAll [lowV] (tuA A))))/\w.grownBy w' none):=fun sv A w h1 h2 h3=>spansOf_any sv A w h1 h2 h3
 clear hs ht h1 h2
 go_enter Tryz.func29,Tryz.ntmps29
 go_wp2_with (first | (go_at_call 11;refine (CP.out _).mono ?_))
 rintro e w1 ⟨o,n,c,rfl,hg,-,hok⟩
 obtain ⟨T,hT1,hT2,hT3,hT4⟩:=hok rfl
 have HG:Hid (w.grownBy w1 none):=hg
 have HL:Hid (SpS w1 (.slice o n c) (outs T)):=hT1.sps
 clear hg hok hT1
 simp only [] at *
 go_wp2_with (first | (go_at_call 11;refine (CQ.out _).mono ?_))
 rintro e w2 ⟨o',n',c',rfl,hg,-,hok⟩
 obtain ⟨T',hU1,hU2,hU3,hU4⟩:=hok rfl
 replace HG:Hid (w.grownBy w2 none):=gb_trans HG.out hg
 replace HL:Hid (SpS w2 (.slice o n c) (outs T)):=HL.out.grow hg
 have HM:Hid (SpS w2 (.slice o' n' c') (outs T')):=hU1.sps
 have HEQ:Hid ((∀v,VOk v->admS S v=admS U v)->outs T=outs T'):=fun h=>by rw [nt_one hT3 hU3 (fun v hv=>by rw [hT4 v hv,hU4 v hv,h v hv])]
 have HLN:Hid ((outs T).length<=4194304):=by have:=hT2.ln;show _<=_;omega
 clear hg hok hU1 hU2 hU3 hU4 hT2
 simp only [] at *
 go_wp2_with (first | (go_at_call 12;refine (CR.out _).mono ?_))
 rintro e w3 ⟨o3,n3,c3,Q,rfl,hg,hrr⟩
 obtain ⟨r1,r2,r3,r4⟩:=hrr rfl
 replace HG:Hid (w.grownBy w3 none):=gb_trans HG.out hg
 replace HL:Hid (SpS w3 (.slice o n c) (outs T)):=HL.out.grow hg
 replace HM:Hid (SpS w3 (.slice o' n' c') (outs T')):=HM.out.grow hg
 have HDT:Hid (outs (tog (admQ Q) false (insAll [lowV] (tuA Q)))=outs T):=doc_outs r2 r3 r4 hT3 hT4
 have CSQ:Hid (Calls Tryz.prog 15 #[.slice o3 n3 c3] w3 fun e w''=>∃vo,e=.returned vo/\SpS w'' vo (outs T)/\w3.grownBy w'' none):=by
  show Calls _ _ _ _ _
  rw [<-HDT.out]
  exact CSO.out _ Q w3 (oa_ss r1) r3 r4
 clear hg hrr r1 r2 r3 r4 hT3 hT4 HDT
 simp only [] at *
 obtain ⟨N,hN⟩:∃N,outs T=N:=⟨_,rfl⟩
 obtain ⟨M,hM⟩:∃M,outs T'=M:=⟨_,rfl⟩
 rw [hN] at HL HEQ HLN CSQ
 rw [hM] at HM HEQ
 clear hN hM
 go_wp2_with (first | (go_at_call 15;refine CSQ.out.mono ?_))
 rintro e w4 ⟨vo,rfl,hvo,hg⟩
 obtain ⟨o4,n4,c4,rfl⟩:=sps_slice hvo
 have hn4:=sps_len hvo
 have hn:=sps_len HL.out
 replace HG:Hid (w.grownBy w4 none):=gb_trans HG.out hg
 replace HL:Hid (SpS w4 (.slice o n c) N):=HL.out.grow hg
 replace HM:Hid (SpS w4 (.slice o' n' c') M):=HM.out.grow hg
 have hnn:n4=n:=by rw [hn4,hn]
 subst hnn
 have CE:Hid (∀a b w,SpS w a N->SpS w b M->Calls Tryz.prog 16 #[a,b] w fun e w'=>(∃r,e=.returned (.bool r)/\(r=true ↔ N=M))/\w.grownBy w' none):=fun a b w h h'=>cEqualG a b N M w h h' HLN.out
 clear hvo hg hn hn4
 go_wp2_with (first | (go_at_call 13;refine (CN.out _ _).mono ?_;rintro e wc ⟨rfl,hgc⟩;replace HG:Hid (w.grownBy wc none):=gb_trans HG.out hgc;replace HL:Hid (SpS wc _ N):=HL.out.grow hgc;replace HM:Hid (SpS wc _ M):=HM.out.grow hgc;clear hgc) | (go_at_call 16;refine (CE.out _ _ _ HL.out HM.out).mono ?_;rintro e wb ⟨⟨r,rfl,hr⟩,hgb⟩))
 go_ret
 exact ⟨_,rfl,gb_trans HG.out hgb,fun h=>hr.2 (HEQ.out h)⟩
open Go.RowKit
set_option linter.unusedVariables false
theorem dec_len:∀(k u:Nat),u < 10 ^ (k+1)->(Lib.decDigits u).length<=k+1
 | 0,u,h=>by rw [Lib.decDigits,dif_pos (by simpa using h)];simp
 | k+1,u,h=>by
  rw [Lib.decDigits]
  split
  ·simp
  ·have:=dec_len k (u / 10) (by rw [Nat.pow_succ] at h;omega)
   simp only [List.length_append,List.length_cons,List.length_nil]
   omega
theorem itoa_l9 {a:Int} (h:Nn a):(Lib.itoa a).length<=9:=by
 rw [itoa_dec h.1]
 have:=h.1
 have:=h.2
 exact dec_len 8 _ (by omega)
theorem three_len {a b c:Int} (ha:Nn a) (hb:Nn b) (hc:Nn c):(textV ⟨a,b,c,[],[]⟩).length<=29:=by
 have h1:=itoa_l9 ha
 have h2:=itoa_l9 hb
 have h3:=itoa_l9 hc
 simp only [textV,optT,if_true,List.length_append,List.length_cons,List.length_nil]
 omega
theorem three_pre (a b c:Int):textV ⟨a,b,c,[],[]⟩++[45,48]=textV ⟨a,b,c,[48],[]⟩:=by
 simp [textV,optT]
theorem ok_nil (s:Bool):okParts s []=true:=rfl
theorem ok_48:okParts true [48]=true:=by decide
theorem alike_yes (X Y:List UInt8) (S U:List (List Te)) (w:World) (h1:RT X S) (h2:RT Y U) (l1:X.length<=200) (l2:Y.length<=200) (h:∀v,VOk v->admS S v=admS U v) :
  Calls Tryz.prog 29 #[.string ⟨X.toArray⟩,.string ⟨Y.toArray⟩] w fun e w'=>e=.returned (.bool true)/\w.grownBy w' none:=by
 refine (alike_any ⟨X.toArray⟩ ⟨Y.toArray⟩ S U w (by show X.toArray.size < _;simp;omega) (by show Y.toArray.size < _;simp;omega) (by simpa using range_give h1 l1) (by simpa using range_give h2 l2)).mono ?_
 rintro e w' ⟨b,rfl,hg,hb⟩
 rw [hb h]
 exact ⟨rfl,hg⟩
theorem alike_some (X Y:List UInt8) (S U:List (List Te)) (w:World) (h1:RT X S) (h2:RT Y U) (l1:X.length<=200) (l2:Y.length<=200) :
  Calls Tryz.prog 29 #[.string ⟨X.toArray⟩,.string ⟨Y.toArray⟩] w fun e w'=>(∃b:Bool,e=.returned (.bool b)/\((∀v,VOk v->admS S v=admS U v)->b=true))/\w.grownBy w' none:=by
 refine (alike_any ⟨X.toArray⟩ ⟨Y.toArray⟩ S U w (by show X.toArray.size < _;simp;omega) (by show Y.toArray.size < _;simp;omega) (by simpa using range_give h1 l1) (by simpa using range_give h2 l2)).mono ?_
 rintro e w' ⟨b,rfl,hg,hb⟩
 exact ⟨⟨b,rfl,hb⟩,hg⟩
end Go.Proofs.YtonfldbigenfhaaGreatDoor
