/-
  What the program's rules of rewriting are put together of. No condition.
-/
import Derived.Test.YtgpdmgaemhelgaaGreatKSDca
import Derived.Test.YtgpdmgaemhelgaaGreatKSDcb
import Derived.Test.YtgpdmgaemhelgaaGreatKSDcf
import Derived.Test.YtgpdmgaemhelgaaGreatJSVPlanE
import Derived.Test.YtgpdmgaemhelgaaGreatJSVPlanO
import Derived.Test.YtgpdmgaemhelgaaGreatJSVRwA
import Derived.Test.YtgpdmgaemhelgaaGreatJSVYld
set_option maxHeartbeats 4000000
set_option maxRecDepth 100000
set_option linter.unusedVariables false
set_option linter.unusedSimpArgs false
namespace Go.Proofs.YtgpdmgaemhelgaaGreat
open Go.RowKit
theorem planI {ws : List Int} (hw : wsOk ws) {p : Pl} {d : Nat} {w : Int} (h : Wf ws p d w) (hd : d ≤ 8) : Does Tryz.prog 19 [] [pD p,intsD ws] (I w) [] ∧ wdV ws p 8 = w:=by
 have h8:=wf_mono hw h hd
 obtain ⟨h1,h2⟩:=wf_to hw h8
 have hs:=wf_size h8
 rw [pw_8] at hs
 obtain ⟨_,_,h3⟩:=PlanWidth_fn p (by omega) ws (by have:=hw.1; omega)
 rw [PV_t hw,h1] at h3
 exact ⟨h3,h1⟩
theorem kidWidths_ok {ws : List Int} {k t : Int} {es : List E} {cs : List Int} {x y : Pl} {a b : Int} (hx : Does Tryz.prog 19 [] [pD x,intsD ws] (I a) []) (hy : Does Tryz.prog 19 [] [pD y,intsD ws] (I b) []) : Does Tryz.prog 160 [] [pD (.mk k t es cs [x,y]),intsD ws] (.tup [I a,I b]) []:=by
 refine Bg c_Z92 mixed (go1 trivial ?_)
 refine Uc trivial (hx) (go1 trivial ?_)
 exact Uc trivial (hy) (go0 trivial)
theorem bothTrue_ok (a b : E) : Does Tryz.prog 159 [] [eD a,eD b] (eD (.mk 8 0 ⟨false,0⟩ [a,b])) []:=by
 exact Bg c_Z109 mixed (go0 trivial)
theorem filterI_ok (e : E) (x : Pl) : Does Tryz.prog 158 [] [eD e,pD x] (pD (.mk 2 0 [e] [] [x])) []:=by
 refine Bg c_Z110 mixed (go1 trivial ?_)
 have h : Sub (.agg [I 2,I 0,.sl 5 [eD e],.nul,.sl 5 [pD x]]) (pD (.mk 2 0 [e] [] [x])):=plS (Sub.refl _) (Sub.nul 1) (Sub.refl _)
 simp only [go_sem] at h
 exact h
theorem indexM_ok {f : FuncId} (hf : enters Tryz.prog f = true) {t : Int} {q : Nat → Bool} (l : List Nat) (hl : l.length < 1000) (h : ∀ c,c ∈ l → Does Tryz.prog f [.obj [I t]] [I c,.ref 1000000 0] (Bo (q c)) [.obj [I t]]) : Does Tryz.prog 182 [.obj [I t]] [.sl 1 (l.map fun j : Nat=>I (j : Int)),.fn f [.ref 1000000 0]] (I (placeL q l)) [.obj [I t]]:=by
 refine Bk c_Z10 mixed 1 (go1 trivial ?_)
 refine dw_for (c:=1) (l:=fun i=>[(0,.sl 1 (l.map fun j : Nat=>I (j : Int))),(1,.fn f [.ref 1000000 0]),(7,I l.length),(8,I i),(1000000,.obj [I t])]) l.length (fun i=>∀ (j : Nat) (u : Nat),j < i → l[j]? = some u → q u = false) 0 (by omega) (Wk.list [1000000] rfl rfl ?_) (fun i hi hJ=>?_) (Nat.zero_le _)
 ·repeat' (first|(conv in hold _=>simp (disch:=omega) only [go_sem])|exact trivial|exact Sub.refl _|omega)
  exact rfl
 ·rcases at_or_end hi with ⟨x,hx,hlt⟩ | rfl
  ·have hix:=h x (List.mem_of_getElem? hx)
   cases hq : q x with
   | true=>
    rw [hq] at hix
    refine go1 @hx ?_
    refine v_fn (hf) ?_
    refine UcR [1000000] trivial (hix) (go1 trivial ?_)
    refine fin_L [1000000] ?_ ?_ rfl ?_
    repeat' (first|(conv in hold _=>simp (disch:=omega) only [go_sem])|exact trivial|exact Sub.refl _|omega)
    exact Sub.of_eq (by rw [placeL_at hx hq hJ])
   | false=>
    rw [hq] at hix
    refine go1 @hx ?_
    refine v_fn (hf) ?_
    refine UcR [1000000] trivial (hix) (go1 trivial ?_)
    refine ⟨hlt,upto_next (p:=fun u=>q u = false) hx hJ hq,Wk.list [1000000] rfl rfl ?_⟩
    exact Ag trivial
  ·refine go1 trivial ?_
   refine fin_L [1000000] ?_ ?_ rfl ?_
   repeat' (first|(conv in hold _=>simp (disch:=omega) only [go_sem])|exact trivial|exact Sub.refl _|omega)
   exact Sub.of_eq (by rw [placeL_none (upto_all (p:=fun u=>q u = false) hJ)])
theorem containsM_ok {f : FuncId} (hf : enters Tryz.prog f = true) {t : Int} {q : Nat → Bool} (l : List Nat) (hl : l.length < 1000) (h : ∀ c,c ∈ l → Does Tryz.prog f [.obj [I t]] [I c,.ref 1000000 0] (Bo (q c)) [.obj [I t]]) : Does Tryz.prog 161 [.obj [I t]] [.sl 1 (l.map fun j : Nat=>I (j : Int)),.fn f [.ref 1000000 0]] (Bo (l.any q)) [.obj [I t]]:=by
 have h1:=indexM_ok hf l hl h
 have h2:=placeL_pos q l
 refine Bk c_Z9 mixed 1 (go1 trivial ?_)
 refine UcR [1000000] trivial (h1) (go1 trivial ?_)
 have h3 : decide (0 ≤ placeL q l) = l.any q:=by
  rw [Bool.eq_iff_iff,decide_eq_true_iff]
  exact h2
 refine fin_L [1000000] ?_ ?_ rfl ?_
 repeat' (first|(conv in hold _=>simp (disch:=omega) only [go_sem])|exact trivial|exact Sub.refl _|omega)
 rw [h3]
 exact Sub.refl _
theorem left1_ok (c : Nat) (a : Int) (hc : c < 6) (ha : 0 ≤ a ∧ a ≤ 6) : Does Tryz.prog 163 [.obj [I a]] [I c,.ref 1000000 0] (Bo (decide (a ≤ (c : Int)))) [.obj [I a]]:=by
 refine Bk c_Z73 mixed 1 (go1 trivial ?_)
 refine fin_L [1000000] ?_ ?_ rfl ?_
 all_goals exact Ag trivial
theorem right1_ok (c : Nat) (a : Int) (hc : c < 6) (ha : 0 ≤ a ∧ a ≤ 6) : Does Tryz.prog 164 [.obj [I a]] [I c,.ref 1000000 0] (Bo (decide ((c : Int) < a))) [.obj [I a]]:=by
 refine Bk c_Z55 mixed 1 (go1 trivial ?_)
 refine fin_L [1000000] ?_ ?_ rfl ?_
 all_goals exact Ag trivial
theorem right2_ok (c a : Int) (hc : 0 ≤ c ∧ c < 100) (ha : 0 ≤ a ∧ a ≤ 6) : Does Tryz.prog 166 [.obj [I a]] [I c,.ref 1000000 0] (I (c - a)) [.obj [I a]]:=by
 refine Bk c_Z56 mixed 1 (go1 trivial ?_)
 refine fin_L [1000000] ?_ ?_ rfl ?_
 all_goals exact Ag trivial
theorem comm1_ok (c a b : Int) (hc : 0 ≤ c ∧ c < 100) (ha : 1 ≤ a ∧ a ≤ 6) (hb : 1 ≤ b ∧ b ≤ 6) : Does Tryz.prog 167 [.obj [I b],.obj [I a]] [I c,.ref 1000000 0,.ref 1000001 0] (I ((c + b).tmod (a + b))) [.obj [I b],.obj [I a]]:=by
 have hne : a + b ≠ 0:=by omega
 refine Bk c_Z27 mixed 2 (go1 @hne ?_)
 refine fin_L [1000000,1000001] ?_ ?_ rfl ?_
 all_goals exact Ag trivial
theorem visit1_ok {a : Int} (e : E) (ha : 0 ≤ a ∧ a ≤ 6) (h : e.k = 1 → 0 ≤ e.c ∧ e.c < 100) : Does Tryz.prog 168 [.obj [I a]] [.agg [.fn 166 [.ref 1000000 0]],eD e] (eD (mvE (fun c=>c - a) e)) [.obj [I a]]:=by
 by_cases hk : e.k = 1
 ·have hf:=right2_ok e.c a (h hk) ha
  rw [mvE_col hk]
  refine Bk c_Z15 mixed 1 (go1 trivial ?_)
  refine v_fn ((by kernel_rfl)) ?_
  refine UcR [1000000] trivial (hf) (go1 trivial ?_)
  refine fin_L [1000000] ?_ ?_ rfl ?_
  all_goals exact Ag trivial
 ·rw [mvE_no hk]
  refine Bk c_Z15 mixed 1 (go1 trivial ?_)
  refine fin_L [1000000] ?_ ?_ rfl ?_
  all_goals exact Ag trivial
theorem visit2_ok {a b : Int} (e : E) (ha : 1 ≤ a ∧ a ≤ 6) (hb : 1 ≤ b ∧ b ≤ 6) (h : e.k = 1 → 0 ≤ e.c ∧ e.c < 100) : Does Tryz.prog 168 [.obj [I b],.obj [I a]] [.agg [.fn 167 [.ref 1000000 0,.ref 1000001 0]],eD e] (eD (mvE (fun c=>(c + b).tmod (a + b)) e)) [.obj [I b],.obj [I a]]:=by
 by_cases hk : e.k = 1
 ·have hf:=comm1_ok e.c a b (h hk) ha hb
  rw [mvE_col hk]
  refine Bk c_Z15 mixed 2 (go1 trivial ?_)
  refine v_fn ((by kernel_rfl)) ?_
  refine UcR [1000000,1000001] trivial (hf) (go1 trivial ?_)
  refine fin_L [1000000,1000001] ?_ ?_ rfl ?_
  all_goals exact Ag trivial
 ·rw [mvE_no hk]
  refine Bk c_Z15 mixed 2 (go1 trivial ?_)
  refine fin_L [1000000,1000001] ?_ ?_ rfl ?_
  all_goals exact Ag trivial
theorem rewriteM1 {f : FuncId} {a : Int} (g : E → E) (Ok : E → Prop) (hk : ∀ e x,Ok e → x ∈ e.ks → Ok x) (hl2 : ∀ e,Ok e → e.ks.length ≤ 2)
  (hvis : ∀ e,Ok e → Does Tryz.prog 168 [.obj [I a]] [.agg [.fn f [.ref 1000000 0]],eD (.mk e.k e.c e.v (rwL g e.ks))] (eD (rwE g e)) [.obj [I a]]) : ∀ (e : E),Ok e → Does Tryz.prog 165 [.obj [I a]] [eD e,.ifc 175 (.agg [.fn f [.ref 1000000 0]])] (eD (rwE g e)) [.obj [I a]]:=by
 have hm : methOf Tryz.prog 175 name_impl_visit = some 168:=by kernel_rfl
 refine E.ind (fun e ih h=>?_)
 have hlen:=hl2 e h
 have hv:=hvis e h
 rw [eD_eq] at hv
 have hfl:=rwL_map g e.ks
 have hll : (rwL g e.ks).length = e.ks.length:=by rw [hfl,List.length_map]
 refine Bk c_Z57 mixed 1 (go1 trivial ?_)
 refine dw_for (c:=4) (l:=fun i=>[(1,.ifc 175 (.agg [.fn f [.ref 1000000 0]])),(2,.ref 1000001 0),(4,.ref 1000002 0),(5,.own 1000003 5 i),(9,.sl 5 (e.ks.map eD)),(10,I e.ks.length),(11,I i),(1000000,.obj [I a]),(1000001,.obj [I e.k,I e.c,Bo e.v.b,I e.v.n,.sl 5 (e.ks.map eD)]),(1000002,.obj [I 0,I 0,Bo false,I 0,.nul]),(1000003,.row 5 (((rwL g e.ks).take i).map eD))]) e.ks.length (fun _=>True) 0 trivial ((wk_row 5 2000020 5 (by decide) (by decide) rfl rfl).trans (Wk.list [1000000,2000002,2000004,2000020] rfl rfl ?_)) (fun i hi _=>?_) (Nat.zero_le _)
 ·repeat' (first|(conv in hold _=>simp (disch:=omega) only [go_sem])|exact trivial|exact Sub.refl _|omega)
  first | exact rfl | ((repeat' apply And.intro) <;> rfl)
 ·have hlt:=take_len (vs:=rwL g e.ks) (i:=i) (by omega)
  have hmt:=take_map eD (vs:=rwL g e.ks) (i:=i) (by omega)
  rcases at_or_end hi with ⟨x,hx,hlt1⟩ | rfl
  ·have hix:=ih x (List.mem_of_getElem? hx) (hk e x h (List.mem_of_getElem? hx))
   have hfx : (rwL g e.ks)[i]? = some (rwE g x):=by rw [hfl,List.getElem?_map,hx]; rfl
   have hnx:=take_next hfx
   refine go1 @hx ?_
   refine UcR [1000000] trivial (hix) (go1 trivial ?_)
   refine ⟨hlt1,trivial,Wk.list [1000000,1000001,1000002,2000020] rfl rfl ?_⟩
   repeat' (first|(conv in hold _=>simp (disch:=omega) only [go_sem])|exact trivial|exact Sub.refl _|omega)
   rw [hmt,hnx,List.map_append,List.map_cons,List.map_nil,eD_eq (rwE g x)]
  ·have e1 : (rwL g e.ks).take e.ks.length = rwL g e.ks:=List.take_of_length_le (by omega)
   have e2 : ((rwL g e.ks).map eD).take e.ks.length = (rwL g e.ks).map eD:=List.take_of_length_le (by rw [List.length_map]; omega)
   refine go1C @e1 ?_
   refine s_pre (pre_frz (t:=25) (g:=1000003) (by decide) (by decide) rfl ?_) ?_
   rotate_left
   refine go1 (cj3 @e1 @e2 @hll) ?_
   ·refine i_meth (hm) ?_
    refine UcR [1000000] (cj2 @e2 @hll) (hv) (go1 (cj2 @e2 @hll) ?_)
    refine fin_L [1000000] ?_ ?_ rfl ?_
    all_goals exact Ag trivial
   ·exact exprs_pur _
theorem rewriteM2 {f : FuncId} {a b : Int} (g : E → E) (Ok : E → Prop) (hk : ∀ e x,Ok e → x ∈ e.ks → Ok x) (hl2 : ∀ e,Ok e → e.ks.length ≤ 2)
  (hvis : ∀ e,Ok e → Does Tryz.prog 168 [.obj [I b],.obj [I a]] [.agg [.fn f [.ref 1000000 0,.ref 1000001 0]],eD (.mk e.k e.c e.v (rwL g e.ks))] (eD (rwE g e)) [.obj [I b],.obj [I a]]) : ∀ (e : E),Ok e → Does Tryz.prog 165 [.obj [I b],.obj [I a]] [eD e,.ifc 175 (.agg [.fn f [.ref 1000000 0,.ref 1000001 0]])] (eD (rwE g e)) [.obj [I b],.obj [I a]]:=by
 have hm : methOf Tryz.prog 175 name_impl_visit = some 168:=by kernel_rfl
 refine E.ind (fun e ih h=>?_)
 have hlen:=hl2 e h
 have hv:=hvis e h
 rw [eD_eq] at hv
 have hfl:=rwL_map g e.ks
 have hll : (rwL g e.ks).length = e.ks.length:=by rw [hfl,List.length_map]
 refine Bk c_Z57 mixed 2 (go1 trivial ?_)
 refine dw_for (c:=5) (l:=fun i=>[(1,.ifc 175 (.agg [.fn f [.ref 1000000 0,.ref 1000001 0]])),(2,.ref 1000002 0),(4,.ref 1000003 0),(5,.own 1000004 5 i),(9,.sl 5 (e.ks.map eD)),(10,I e.ks.length),(11,I i),(1000000,.obj [I b]),(1000001,.obj [I a]),(1000002,.obj [I e.k,I e.c,Bo e.v.b,I e.v.n,.sl 5 (e.ks.map eD)]),(1000003,.obj [I 0,I 0,Bo false,I 0,.nul]),(1000004,.row 5 (((rwL g e.ks).take i).map eD))]) e.ks.length (fun _=>True) 0 trivial ((wk_row 5 2000020 5 (by decide) (by decide) rfl rfl).trans (Wk.list [1000000,1000001,2000002,2000004,2000020] rfl rfl ?_)) (fun i hi _=>?_) (Nat.zero_le _)
 ·repeat' (first|(conv in hold _=>simp (disch:=omega) only [go_sem])|exact trivial|exact Sub.refl _|omega)
  first | exact rfl | ((repeat' apply And.intro) <;> rfl)
 ·have hlt:=take_len (vs:=rwL g e.ks) (i:=i) (by omega)
  have hmt:=take_map eD (vs:=rwL g e.ks) (i:=i) (by omega)
  rcases at_or_end hi with ⟨x,hx,hlt1⟩ | rfl
  ·have hix:=ih x (List.mem_of_getElem? hx) (hk e x h (List.mem_of_getElem? hx))
   have hfx : (rwL g e.ks)[i]? = some (rwE g x):=by rw [hfl,List.getElem?_map,hx]; rfl
   have hnx:=take_next hfx
   refine go1 @hx ?_
   refine UcR [1000000,1000001] trivial (hix) (go1 trivial ?_)
   refine ⟨hlt1,trivial,Wk.list [1000000,1000001,1000002,1000003,2000020] rfl rfl ?_⟩
   repeat' (first|(conv in hold _=>simp (disch:=omega) only [go_sem])|exact trivial|exact Sub.refl _|omega)
   rw [hmt,hnx,List.map_append,List.map_cons,List.map_nil,eD_eq (rwE g x)]
  ·have e1 : (rwL g e.ks).take e.ks.length = rwL g e.ks:=List.take_of_length_le (by omega)
   have e2 : ((rwL g e.ks).map eD).take e.ks.length = (rwL g e.ks).map eD:=List.take_of_length_le (by rw [List.length_map]; omega)
   refine go1C @e1 ?_
   refine s_pre (pre_frz (t:=25) (g:=1000004) (by decide) (by decide) rfl ?_) ?_
   rotate_left
   refine go1 (cj3 @e1 @e2 @hll) ?_
   ·refine i_meth (hm) ?_
    refine UcR [1000000,1000001] (cj2 @e2 @hll) (hv) (go1 (cj2 @e2 @hll) ?_)
    refine fin_L [1000000,1000001] ?_ ?_ rfl ?_
    all_goals exact Ag trivial
   ·exact exprs_pur _
theorem okAt {n : Int} (hn : n ≤ 6) {e : E} {d : Nat} (h : eOk e n d) : (e.k = 1 → 0 ≤ e.c ∧ e.c < 100) ∧ e.ks.length ≤ 2:=by
 have h1:=(eOk_iff e _ d).1 h
 have h2:=kidsN_le e.k
 refine ⟨fun hk=>?_,by omega⟩
 have hl:=h1.2.2.2
 unfold leafOk at hl
 rw [if_pos hk] at hl
 omega
theorem moveR_ok {a n : Int} (ha : 0 ≤ a ∧ a ≤ 6) (hn : n ≤ 6) {e : E} (h : eOk e n 8) : Does Tryz.prog 165 [.obj [I a]] [eD e,.ifc 175 (.agg [.fn 166 [.ref 1000000 0]])] (eD (rwE (mvE fun c=>c - a) e)) [.obj [I a]]:=
 rewriteM1 (mvE fun c=>c - a) (fun e=>∃ d,eOk e n d) (fun e x ⟨d,he⟩ hx=>⟨d - 1,((eOk_iff e _ d).1 he).2.2.1 x hx⟩) (fun e ⟨d,he⟩=>(okAt hn he).2)
  (fun e ⟨d,he⟩=>by rw [rwE_eq]; exact visit1_ok _ ha (okAt hn he).1) e ⟨8,h⟩
theorem moveB_ok {a b n : Int} (ha : 1 ≤ a ∧ a ≤ 6) (hb : 1 ≤ b ∧ b ≤ 6) (hn : n ≤ 6) {e : E} (h : eOk e n 8) : Does Tryz.prog 165 [.obj [I b],.obj [I a]] [eD e,.ifc 175 (.agg [.fn 167 [.ref 1000000 0,.ref 1000001 0]])] (eD (rwE (mvE fun c=>(c + b).tmod (a + b)) e)) [.obj [I b],.obj [I a]]:=
 rewriteM2 (mvE fun c=>(c + b).tmod (a + b)) (fun e=>∃ d,eOk e n d) (fun e x ⟨d,he⟩ hx=>⟨d - 1,((eOk_iff e _ d).1 he).2.2.1 x hx⟩) (fun e ⟨d,he⟩=>(okAt hn he).2)
  (fun e ⟨d,he⟩=>by rw [rwE_eq]; exact visit2_ok _ ha hb (okAt hn he).1) e ⟨8,h⟩
end Go.Proofs.YtgpdmgaemhelgaaGreat
