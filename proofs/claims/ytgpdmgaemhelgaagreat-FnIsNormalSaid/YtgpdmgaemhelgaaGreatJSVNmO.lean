/-
  Normalize and IsNormal of the model. No condition.
-/
import Derived.Test.YtgpdmgaemhelgaaGreatKSDca
import Derived.Test.YtgpdmgaemhelgaaGreatJSVEsz
import Derived.Test.YtgpdmgaemhelgaaGreatJSDcv
import Derived.Test.YtgpdmgaemhelgaaGreatJSVCk
import Derived.Test.YtgpdmgaemhelgaaGreatJSVStS
import Derived.Test.YtgpdmgaemhelgaaGreatJSVYld
import Derived.Test.YtgpdmgaemhelgaaGreatKSVStI
import Derived.Test.YtgpdmgaemhelgaaGreatJSVLaw
import Derived.Test.YtgpdmgaemhelgaaGreatJSVPlanE
set_option maxHeartbeats 4000000
set_option maxRecDepth 100000
set_option linter.unusedVariables false
set_option linter.unusedSimpArgs false
namespace Go.Proofs.YtgpdmgaemhelgaaGreat
open Go.RowKit
theorem stE_mem (s : Int × List Int) : stE s = .agg [I s.1,.sl 1 (s.2.map I)]:=rfl
theorem lowers_ok (r : Int) : Does Tryz.prog 69 [] [I r] (Bo (lowR r)) []:=by
 unfold lowR
 refine does0 c_Z158 mixed (Nat.le_of_ble_eq_true rfl) ?_
 conv=>arg 3; whnf
 repeat' (first|with_reducible refine acc_none ?_ | (conv in hold _=>simp (disch:=omega) only [go_sem])|refine Stp.go ?_|(with_reducible first|refine it_pos rfl ?_|refine it_neg (by decide) ?_|refine st_nil rfl ?_|refine s_op ?_ ?_|exact trivial)|((with_reducible first|refine dw_reg0 ?_|refine dw_regB ?_);(conv=>arg 3;whnf))|(refine Spl.go (fun hq he=>?_) (fun hq he=>?_)<;>first|(exfalso;clear hq;omega)|((try first|(conv=>arg 8;simp only [hq])|(conv=>arg 4;simp only [hq]));clear hq))|((with_reducible first|refine c_split (fun hq=>?_) (fun hq=>?_)|refine q_split (fun hq=>?_) (fun hq=>?_))<;>(try first|(conv=>arg 8;simp only [hq])|(conv=>arg 4;simp only [hq])))|(with_reducible refine fin_0 ?_ (by first|rfl|(conv=>lhs;simp only [go_sem])) ?_)|exact Sub.refl _|omega)
 all_goals (refine Sub.of_eq (congrArg (fun b=>D.v (Value.bool b)) ?_); simp [*])
theorem find_at (S : List (Int × List Int)) : ∃ k, k ≤ S.length ∧ (∀ i s, i < k → S[i]? = some s → lowR s.1 = false) ∧ ((k = S.length ∧ S.find? (fun s => lowR s.1) = none) ∨ ∃ s, S[k]? = some s ∧ lowR s.1 = true ∧ S.find? (fun s => lowR s.1) = some s) := by
  induction S with
  | nil => exact ⟨0, Nat.le_refl _, fun i s hi => absurd hi (Nat.not_lt_zero i), .inl ⟨rfl, rfl⟩⟩
  | cons s S ih =>
    by_cases hl : lowR s.1 = true
    · exact ⟨0, Nat.zero_le _, fun i s hi => absurd hi (Nat.not_lt_zero i), .inr ⟨s, rfl, hl, by rw [List.find?_cons, hl]⟩⟩
    · have hl : lowR s.1 = false := by simpa using hl
      obtain ⟨k, h1, h2, h3⟩ := ih
      refine ⟨k + 1, by rw [List.length_cons]; omega, fun i t hi ht => ?_, ?_⟩
      · cases i with
        | zero => obtain rfl : s = t := by simpa using ht
                  exact hl
        | succ i => exact h2 i t (by omega) (by simpa using ht)
      · rcases h3 with ⟨h3, h4⟩ | ⟨t, h3, h4, h5⟩
        · exact .inl ⟨by rw [List.length_cons, h3], by rw [List.find?_cons, hl]; exact h4⟩
        · exact .inr ⟨t, by simpa using h3, h4, by rw [List.find?_cons, hl]; exact h5⟩
noncomputable def isN (ws : List Int) (p : Pl) : Bool:=decide (PV ws p ≠ 0) && (fsP ws p).isNone
theorem IsNormal_spec (p : Pl) (hs : psz p ≤ 1048576) (ws : List Int) (hl : ws.length ≤ 1048576) : Does Tryz.prog 39 [] [pD p,intsD ws] (Bo (isN ws p)) []:=by
 obtain ⟨_,h1,_⟩:=PlanWidth_fn p hs ws hl
 unfold isN
 by_cases hz : PV ws p = 0
 ·rw [show decide (PV ws p ≠ 0) = false from decide_eq_false (fun g=>g hz),Bool.false_and]
  rw [hz] at h1
  refine Bg c_Z132 mixed (go1 @intsD.eq_1 ?_)
  exact Uc @intsD.eq_1 (h1) (go0 @intsD.eq_1)
 ·rw [show decide (PV ws p ≠ 0) = true from decide_eq_true hz,Bool.true_and]
  obtain ⟨hw,hwf⟩:=PV_wf hz
  have h2:=stepsFor_ok hw hwf
  have hne : (PV ws p == 0) = false:=beq_eq_false_iff_ne.2 hz
  have hsl:=stpO_len (ws:=ws) hs
  rw [show stpO ws p = stepsP ws p from if_neg hz] at hsl
  unfold fsP
  generalize PV ws p = w at *
  generalize stepsP ws p = S at *
  obtain ⟨k,hk,hlow,hcase⟩:=find_at S
  have hlm : (S.map stE).length = S.length:=List.length_map ..
  unfold intsD at h2
  suffices hh : ∀ b : Bool,((k = S.length ∧ S.find? (fun s=>lowR s.1) = none) → b = true) → ((∃ s,S[k]? = some s ∧ lowR s.1 = true ∧ S.find? (fun s=>lowR s.1) = some s) → b = false) → Does Tryz.prog 39 [] [pD p,intsD ws] (Bo b) [] from
   hh _ (fun hx=>by rw [hx.2]; rfl) (fun ⟨s,_,_,hx⟩=>by rw [hx]; rfl)
  intro b hb1 hb2
  refine Bg c_Z132 mixed (go1 @intsD.eq_1 ?_)
  refine Uc (cj2 @intsD.eq_1 @hne) (h1) (go1 (cj2 @intsD.eq_1 @hne) ?_)
  refine Uc trivial (h2) (go1 trivial ?_)
  refine dw_for (c:=1) (l:=fun i=>[(5,.sl 2 (S.map stE)),(6,I i),(1000000,.obj [I p.k,I p.t,.sl 5 (p.es.map eD),intsD p.cs,.sl 5 (p.ks.map pD)])]) S.length (fun i=>i ≤ k) 0 (Nat.zero_le _) (Wk.list [2000002] rfl rfl ?_) (fun i hi hJ=>?_) (Nat.zero_le _)
  ·repeat' (first|(conv in hold _=>simp (disch:=omega) only [go_sem])|exact trivial|exact Sub.refl _|omega)
   (repeat' apply And.intro) <;> rfl
  ·rcases at_or_end hi with ⟨s,hs0,hlt⟩ | rfl
   ·have hdat : (S.map stE)[i]? = some (.agg [I s.1,.sl 1 (s.2.map I)]):=by rw [List.getElem?_map,hs0]; rfl
    have h3:=lowers_ok s.1
    by_cases hik : i = k
    ·subst hik
     rcases hcase with ⟨hc,_⟩ | ⟨t,ht,hlt2,hf⟩
     ·exact absurd hc (by omega)
     ·obtain rfl : s = t:=by rw [hs0] at ht; exact Option.some.inj ht
      obtain rfl : b = false:=hb2 ⟨s,hs0,hlt2,hf⟩
      rw [hlt2] at h3
      generalize S.map stE = ds at *
      refine go1 (cj2 @hdat @hlm) ?_
      exact Uc (cj2 @hdat @hlm) (h3) (go0 (cj2 @hdat @hlm))
    ·rw [hlow i s (by omega) hs0] at h3
     generalize S.map stE = ds at *
     refine go1 (cj2 @hdat @hlm) ?_
     refine Uc (cj2 @hdat @hlm) (h3) (go1 (cj2 @hdat @hlm) ?_)
     refine ⟨hlt,by omega,Wk.list [1000000] rfl rfl ?_⟩
     exact Ag @intsD.eq_1
   ·obtain rfl : b = true:=hb1 (by
     rcases hcase with hc | ⟨t,ht,_⟩
     ·exact hc
     ·have:=(List.getElem?_eq_some_iff.1 ht).1
      omega)
    exact go0 @hlm
theorem nmO_sz {ws : List Int} {p : Pl} : psz (nmO ws p).1 ≤ 457727:=by
 unfold nmO
 split
 ·decide
 ·rename_i hz
  obtain ⟨hw,hwf⟩:=PV_wf hz
  have h:=wf_size (nmI_as hw hwf 40).2.1
  rw [pw_8] at h
  exact h
theorem Normalize_spec (p : Pl) (hs : psz p ≤ 1048576) (ws : List Int) (hl : ws.length ≤ 1048576) : Does Tryz.prog 36 [] [pD p,intsD ws] (.tup [pD (nmO ws p).1,.sl 2 ((nmO ws p).2.map stE)]) []:=by
 obtain ⟨_,h1,_⟩:=PlanWidth_fn p hs ws hl
 unfold nmO
 by_cases hz : PV ws p = 0
 ·rw [if_pos hz]
  rw [hz] at h1
  refine Bg c_Z109 mixed (go1 @intsD.eq_1 ?_)
  refine Uc @intsD.eq_1 (h1) (go1 @intsD.eq_1 ?_)
  exact Sub.tup ⟨Sub.agg ⟨Sub.refl _,Sub.refl _,Sub.nul 5,Sub.nul 1,Sub.nul 5,trivial⟩,Sub.nul 2,trivial⟩
 ·rw [if_neg hz]
  obtain ⟨hw,hwf⟩:=PV_wf hz
  have hne : (PV ws p == 0) = false:=beq_eq_false_iff_ne.2 hz
  generalize PV ws p = w at *
  have h457:=wf_size hwf
  rw [pw_8] at h457
  have hcp:=copyPlan_ok p (by omega)
  rw [pD_eq] at hcp
  suffices hh : ∀ rr : D,(∀ q T,nmP ws p = (q,T) → rr = .tup [.agg [I q.k,I q.t,.sl 5 (q.es.map eD),.sl 1 (q.cs.map I),.sl 5 (q.ks.map pD)],.sl 2 (T.map stE)]) → Does Tryz.prog 36 [] [pD p,intsD ws] rr [] from
   hh _ (fun q T hx=>by rw [hx,pD_eq]; rfl)
  intro rr hrr
  unfold intsD at hcp
  refine Bg c_Z109 mixed (go1 @intsD.eq_1 ?_)
  refine Uc (cj2 @intsD.eq_1 @hne) (h1) (go1 (cj2 @intsD.eq_1 @hne) ?_)
  refine Uc trivial (hcp) (go1 trivial ?_)
  have hend : ∀ (i : Nat),i ≤ 40 → nmP ws p = nmI ws p i → ∃ q T,nmP ws p = (q,T) ∧ nmI ws p i = (q,T) ∧ T.length ≤ 40:=fun i hi he=>⟨_,_,he,rfl,by have:=nmI_len ws p i; omega⟩
  refine dw_for (c:=4) (l:=fun i=>[(1,intsD ws),(2,.ref 1000000 0),(4,.ref 1000001 0),(6,.own 1000003 2 i),(7,.ref 1000002 0),(1000000,.obj [I p.k,I p.t,.sl 5 (p.es.map eD),intsD p.cs,.sl 5 (p.ks.map pD)]),(1000001,.obj [I 0,I 0,.nul,.nul,.nul]),(1000002,.obj [I (nmI ws p i).1.k,I (nmI ws p i).1.t,.sl 5 ((nmI ws p i).1.es.map eD),intsD (nmI ws p i).1.cs,.sl 5 ((nmI ws p i).1.ks.map pD)]),(1000003,.row 2 ((nmI ws p i).2.map stE))]) 40 (fun i=>(nmI ws p i).2.length = i) 0 rfl ((wk_row 6 2000190 2 (by decide) (by decide) rfl rfl).trans (Wk.list [2000002,2000004,2000007,2000190] rfl rfl ?_)) (fun i hi hJ=>?_) (Nat.zero_le _)
  ·exact Ag @nmI.eq_1
  ·obtain ⟨a1,a2,_⟩:=nmI_as hw hwf i
   have hN:=stepsFor_ok hw a2
   rw [pD_eq] at hN
   unfold intsD at hN
   have hlm : ((nmI ws p i).2.map stE).length = i:=by rw [List.length_map,hJ]
   have hta : ((nmI ws p i).2.map stE).take i = (nmI ws p i).2.map stE:=List.take_of_length_le (by omega)
   by_cases h40 : i = 40
   ·obtain ⟨q,T,e1,e2,hTl⟩:=hend i hi (by rw [h40]; rfl)
    have hr:=hrr q T e1
    subst hr
    rw [e2] at hJ hlm hta ⊢
    have hpu:=stE_pur T
    have hrn:=fun L=>ren_pure.renL_pure L _ hpu
    simp only at hJ hlm hta 
    have hb40 : decide ((i : Int) < 40) = false:=decide_eq_false (by omega)
    refine go1F @hb40 ?_
    refine fin_wk (wk_frz 5 1000003 (by decide) (by decide) rfl ?_) ?_
    rotate_left
    (conv in hold _=>simp (disch:=omega) only [go_sem,hta,hlm,hrn,Nat.le_refl])
    ·refine fin_L [] ?_ ?_ rfl ?_
     all_goals exact Ag (cj3 @hta @hlm @hrn)
    ·exact hpu
   ·have hSl:=stepsTo_len ws (nmI ws p i).1 (pathsP (nmI ws p i).1 [])
    have hPl:=pathsP_len (nmI ws p i).1 []
    have hsz:=wf_size a2
    rw [pw_8] at hsz
    obtain ⟨S,hS⟩ : ∃ S,S = stepsP ws (nmI ws p i).1:=⟨_,rfl⟩
    have hSl2 : S.length ≤ 11000000:=by rw [hS]; unfold stepsP; omega
    rw [← hS] at hN
    obtain ⟨k,hk,hlow,hcase⟩:=find_at S
    have hdat : ∀ (j : Nat) (s : Int × List Int),S[j]? = some s → (S.map stE)[j]? = some (.agg [I s.1,.sl 1 (s.2.map I)]):=fun j s hs=>by rw [List.getElem?_map,hs]; rfl
    have hdl : (S.map stE).length = S.length:=List.length_map ..
    rcases hcase with ⟨hc,hf⟩ | ⟨s,ht,htl,hf⟩
    ·have hx : nxP ws (nmI ws p i).1 = none:=by unfold nxP fsP; rw [← hS,hf]; rfl
     obtain ⟨q,T,e1,e2,hTl⟩:=hend i hi (nmI_to hx hi)
     have hr:=hrr q T e1
     subst hr
     rw [e2] at hJ hlm hta a1 a2 hx hN hsz ⊢
     have hpu:=stE_pur T
     have hrn:=fun L=>ren_pure.renL_pure L _ hpu
     simp only at hJ hlm hta a1 a2 hx hN hsz
     clear hS
     generalize S.map stE = ds at *
     have hb40 : decide ((i : Int) < 40) = true:=decide_eq_true (by omega)
     refine go1 @hb40 ?_
     refine Uc trivial (hN) (go1 trivial ?_)
     refine dw_for (c:=4) (l:=fun j=>[(1,intsD ws),(2,.ref 1000000 0),(4,.ref 1000001 0),(6,.own 1000003 2 i),(7,.ref 1000002 0),(8,.sl 2 ds),(9,I j),(1000000,.obj [I p.k,I p.t,.sl 5 (p.es.map eD),intsD p.cs,.sl 5 (p.ks.map pD)]),(1000001,.obj [I 0,I 0,.nul,.nul,.nul]),(1000002,.obj [I q.k,I q.t,.sl 5 (q.es.map eD),intsD q.cs,.sl 5 (q.ks.map pD)]),(1000003,.row 2 (T.map stE))]) k (fun _=>True) 0 trivial (Wk.list [1000000,1000001,1000002,1000003] rfl rfl ?_) (fun j hj _=>?_) (Nat.zero_le _)
     ·repeat' (first|(conv in hold _=>simp (disch:=omega) only [go_sem,intsD])|exact trivial|exact Sub.refl _|omega)
      exact rfl
     ·by_cases hjk : j < k
      ·obtain ⟨s,hs⟩ : ∃ s,S[j]? = some s:=⟨_,List.getElem?_eq_getElem (by omega)⟩
       have h3:=lowers_ok s.1
       rw [hlow j s hjk hs] at h3
       have hd:=hdat j s hs
       refine go1 (cj2 @hd @hdl) ?_
       refine Uc (cj2 @hd @hdl) (h3) (go1 (cj2 @hd @hdl) ?_)
       refine ⟨hjk,trivial,Wk.list [1000000,1000001,1000002,1000003] rfl rfl ?_⟩
       exact Ag @intsD.eq_1
      ·obtain rfl : j = k:=by omega
       have hje : ((j : Int) == (S.length : Int)) = true:=by rw [hc]; exact beq_self_eq_true _
       refine go1F (cj2 @hdl @hje) ?_
       refine fin_wk (wk_frz 5 1000003 (by decide) (by decide) rfl ?_) ?_
       rotate_left
       (conv in hold _=>simp (disch:=omega) only [go_sem,hta,hlm,hrn,Nat.le_refl])
       ·refine fin_L [] ?_ ?_ rfl ?_
        all_goals exact Ag (cj3 @hta @hlm @hrn)
       ·exact hpu
    ·have hx0 : fsP ws (nmI ws p i).1 = some s:=by unfold fsP; rw [← hS,hf]
     obtain ⟨_,_,x,ha⟩:=fsP_some hx0
     have hx : nxP ws (nmI ws p i).1 = some (s,x):=by unfold nxP; rw [hx0,Option.bind_some,ha]; rfl
     have hn1:=nmI_some hx
     have hsl:=pathsP_short a2 [] s.2 (stepsP_mem (fsP_some hx0).1).1
     have hA:=applyStep_ok hw a2 s.1 s.2 (by simp at hsl; omega)
     rw [ha] at hA
     unfold paD stD at hA
     rw [pD_eq,pD_eq] at hA
     unfold intsD at hA
     rw [hn1]
     obtain ⟨q,hq⟩ : ∃ q,q = (nmI ws p i).1:=⟨_,rfl⟩
     obtain ⟨T,hT⟩ : ∃ T,T = (nmI ws p i).2:=⟨_,rfl⟩
     rw [← hq] at hA hN ⊢
     rw [← hT] at hJ hlm hta ⊢
     clear hS
     have hta2 : (T.map stE).take i = T.map stE:=hta
     generalize S.map stE = ds at *
     have hb40 : decide ((i : Int) < 40) = true:=decide_eq_true (by omega)
     refine go1 @hb40 ?_
     refine Uc trivial (hN) (go1 trivial ?_)
     refine dw_for (c:=4) (l:=fun j=>[(1,intsD ws),(2,.ref 1000000 0),(4,.ref 1000001 0),(6,.own 1000003 2 i),(7,.ref 1000002 0),(8,.sl 2 ds),(9,I j),(1000000,.obj [I p.k,I p.t,.sl 5 (p.es.map eD),intsD p.cs,.sl 5 (p.ks.map pD)]),(1000001,.obj [I 0,I 0,.nul,.nul,.nul]),(1000002,.obj [I q.k,I q.t,.sl 5 (q.es.map eD),intsD q.cs,.sl 5 (q.ks.map pD)]),(1000003,.row 2 (T.map stE))]) k (fun _=>True) 0 trivial (Wk.list [1000000,1000001,1000002,1000003] rfl rfl ?_) (fun j hj _=>?_) (Nat.zero_le _)
     ·repeat' (first|(conv in hold _=>simp (disch:=omega) only [go_sem,intsD])|exact trivial|exact Sub.refl _|omega)
      exact rfl
     ·by_cases hjk : j < k
      ·obtain ⟨s',hs⟩ : ∃ s,S[j]? = some s:=⟨_,List.getElem?_eq_getElem (by omega)⟩
       have h3:=lowers_ok s'.1
       rw [hlow j s' hjk hs] at h3
       have hd:=hdat j s' hs
       refine go1 (cj2 @hd @hdl) ?_
       refine Uc (cj2 @hd @hdl) (h3) (go1 (cj2 @hd @hdl) ?_)
       refine ⟨hjk,trivial,Wk.list [1000000,1000001,1000002,1000003] rfl rfl ?_⟩
       exact Ag @intsD.eq_1
      ·obtain rfl : j = k:=by omega
       have hlt:=(List.getElem?_eq_some_iff.1 ht).1
       have h3:=lowers_ok s.1
       rw [htl] at h3
       have hd:=hdat j s ht
       have hje : ((j : Int) == (S.length : Int)) = false:=beq_eq_false_iff_ne.2 (by omega)
       refine go1 (cj2 @hd @hdl) ?_
       refine Uc (cj3 @hd @hdl @hje) (h3) (go1 (cj3 @hd @hdl @hje) ?_)
       refine Uc (cj5 @hd @hdl @hje @hlm @hta) (hA) (go1 (cj5 @hd @hdl @hje @hlm @hta) ?_)
       refine ⟨by omega,by rw [List.length_append,hJ]; rfl,Wk.list [1000000,1000001,1000002,2000063] rfl rfl ?_⟩
       repeat' (first|(conv in hold _=>simp (disch:=omega) only [go_sem,intsD,hlm,hta])|exact trivial|exact Sub.refl _|omega)
       rw [List.map_append]
       rfl
end Go.Proofs.YtgpdmgaemhelgaaGreat
set_option maxHeartbeats 4000000
set_option maxRecDepth 100000
set_option linter.unusedVariables false
set_option linter.unusedSimpArgs false
namespace Go.Proofs.YtgpdmgaemhelgaaGreat
open Go.RowKit
theorem possibleSteps_ok (p : Pl) (ws : List Int) : Does Tryz.prog 59 [] [pD p,intsD ws] (.fn 106 [.ptr [I p.k,I p.t,.sl 5 (p.es.map eD),intsD p.cs,.sl 5 (p.ks.map pD)],.ptr [intsD ws]]) []:=by
 refine Bg c_Z38 mixed (go1F trivial ?_)
 refine fin_wk (wk_fro 4 2000002 (by decide) (by decide) rfl ?_) ?_
 rotate_left
 (conv in hold _=>simp (disch:=omega) only [go_sem])
 ·refine fin_wk (wk_fro 4 2000003 (by decide) (by decide) rfl ?_) ?_
  rotate_left
  (conv in hold _=>simp (disch:=omega) only [go_sem])
  ·refine fin_L [] ?_ ?_ rfl ?_
   all_goals exact Ag trivial
  ·rfl
 ·rfl
theorem normalizes_ok (s : Int × List Int) : Does Tryz.prog 116 [] [stE s] (Bo (lowR s.1)) []:=by
 rw [stE_mem]
 unfold lowR
 refine does0 c_Z25 mixed (Nat.le_of_ble_eq_true rfl) ?_
 conv=>arg 3; whnf
 repeat' (first|with_reducible refine acc_none ?_ | (conv in hold _=>simp (disch:=omega) only [go_sem])|refine Stp.go ?_|(with_reducible first|refine it_pos rfl ?_|refine it_neg (by decide) ?_|refine st_nil rfl ?_|refine s_op ?_ ?_|exact trivial)|((with_reducible first|refine dw_reg0 ?_|refine dw_regB ?_);(conv=>arg 3;whnf))|(refine Spl.go (fun hq he=>?_) (fun hq he=>?_)<;>first|(exfalso;clear hq;omega)|((try first|(conv=>arg 8;simp only [hq])|(conv=>arg 4;simp only [hq]));clear hq))|((with_reducible first|refine c_split (fun hq=>?_) (fun hq=>?_)|refine q_split (fun hq=>?_) (fun hq=>?_))<;>(try first|(conv=>arg 8;simp only [hq])|(conv=>arg 4;simp only [hq])))|(with_reducible refine fin_0 ?_ (by first|rfl|(conv=>lhs;simp only [go_sem])) ?_)|exact Sub.refl _|omega)
 all_goals (refine Sub.of_eq (congrArg (fun b=>D.v (Value.bool b)) ?_); simp [*])
section
variable {ws : List Int} (hw : wsOk ws) {p : Pl} {w : Int} (h : Wf ws p 8 w)
include hw h
theorem normalizingStep_ok : Does Tryz.prog 68 [] [pD p,intsD ws] (stE ((fsP ws p).getD (0,[]))) []:=by
 have hY:=possibleSteps_yields hw h
 have h2:=possibleSteps_ok p ws
 rw [pD_eq] at h2
 unfold fsP
 generalize stepsP ws p = S at *
 obtain ⟨k,hk,hlow,hcase⟩:=find_at S
 have hround : ∀ (j : Nat) (s : Int × List Int),S[j]? = some s → Does Tryz.prog 116 [] [.agg [I s.1,.sl 1 (s.2.map I)]] (Bo (lowR s.1)) []:=fun j s _=>normalizes_ok s
 rcases hcase with ⟨hc,hf⟩ | ⟨t,ht,htl,hf⟩
 ·rw [hf]
  show Does Tryz.prog 68 [] [pD p,intsD ws] (.agg [I 0,.sl 1 []]) []
  refine Bg c_Z26 mixed (go1 trivial ?_)
  refine Uc @intsD.eq_1 (h2) (go1 @intsD.eq_1 ?_)
  refine dw_rng 106 [.ptr [I p.k,I p.t,.sl 5 (p.es.map eD),intsD p.cs,.sl 5 (p.ks.map pD)],.ptr [intsD ws]] (S.map tupS) 2 2 [(2,.ref 1000000 0),(4,.ref 1000001 0),(8,.fn 106 [.ptr [I p.k,I p.t,.sl 5 (p.es.map eD),intsD p.cs,.sl 5 (p.ks.map pD)],.ptr [intsD ws]])] (fun j=>[(1000000,.obj [I p.k,I p.t,.sl 5 (p.es.map eD),intsD p.cs,.sl 5 (p.ks.map pD)]),(1000001,.obj [I 0,.nul])]) hY (by kernel_rfl) rfl (Nat.zero_le _) (Nat.le_refl _) (by decide) ?_ (fun j=>namesOK_of rfl) (Wk.list [2000002,2000004] rfl rfl ?_) rfl (fun j es h=>by obtain ⟨_,_,rfl⟩:=tupS_at h; rfl) (fun j es hes hp=>?_) ?_
  ·simp (disch:=omega) only [go_sem,intsD,and_self,Nat.reduceLT]
  ·exact Ag @intsD.eq_1
  ·obtain ⟨s,hs,rfl⟩:=tupS_at hes
   have h3:=hround j s hs
   rw [hlow j s (by have:=(List.getElem?_eq_some_iff.1 hs).1; omega) hs] at h3
   rw [stE_mem]
   refine go1 trivial ?_
   refine Uc trivial (h3) (go1 trivial ?_)
   refine Wk.list [1000000,1000001] rfl rfl ?_
   exact Ag @intsD.eq_1
  ·refine go1 trivial ?_
   exact Sub.agg ⟨Sub.refl _,Sub.nul 1,trivial⟩
 ·rw [hf]
  show Does Tryz.prog 68 [] [pD p,intsD ws] (stE t) []
  rw [stE_mem]
  refine Bg c_Z26 mixed (go1 trivial ?_)
  refine Uc @intsD.eq_1 (h2) (go1 @intsD.eq_1 ?_)
  refine dw_rngX 106 [.ptr [I p.k,I p.t,.sl 5 (p.es.map eD),intsD p.cs,.sl 5 (p.ks.map pD)],.ptr [intsD ws]] (S.map tupS) k 2 2 [(2,.ref 1000000 0),(4,.ref 1000001 0),(8,.fn 106 [.ptr [I p.k,I p.t,.sl 5 (p.es.map eD),intsD p.cs,.sl 5 (p.ks.map pD)],.ptr [intsD ws]])] (fun j=>[(1000000,.obj [I p.k,I p.t,.sl 5 (p.es.map eD),intsD p.cs,.sl 5 (p.ks.map pD)]),(1000001,.obj [I 0,.nul])]) hY (by kernel_rfl) rfl (Nat.zero_le _) (Nat.le_refl _) (by decide) ?_ (fun j=>namesOK_of rfl) (Wk.list [2000002,2000004] rfl rfl ?_) rfl (fun j es h=>by obtain ⟨_,_,rfl⟩:=tupS_at h; rfl) (by rw [List.length_map]; exact (List.getElem?_eq_some_iff.1 ht).1) (fun j es hj hes hp=>?_) (fun es hes hp=>?_)
  ·simp (disch:=omega) only [go_sem,intsD,and_self,Nat.reduceLT]
  ·exact Ag @intsD.eq_1
  ·obtain ⟨s,hs,rfl⟩:=tupS_at hes
   have h3:=hround j s hs
   rw [hlow j s hj hs] at h3
   rw [stE_mem]
   refine go1 trivial ?_
   refine Uc trivial (h3) (go1 trivial ?_)
   refine Wk.list [1000000,1000001] rfl rfl ?_
   exact Ag @intsD.eq_1
  ·obtain ⟨s,hs,rfl⟩:=tupS_at hes
   obtain rfl : t = s:=by rw [ht] at hs; exact Option.some.inj hs
   have h3:=hround k t ht
   rw [htl] at h3
   rw [stE_mem]
   refine go1 trivial ?_
   refine Uc trivial (h3) (go1 trivial ?_)
   refine ⟨[(1000000,.obj [I p.k,I p.t,.sl 5 (p.es.map eD),intsD p.cs,.sl 5 (p.ks.map pD)]),(1000001,.obj [I t.1,.sl 1 (t.2.map I)])],namesOK_of rfl,Wk.list [1000000,1000001] rfl rfl ?_,?_⟩
   ·exact Ag @intsD.eq_1
   ·exact go0 @intsD.eq_1
end
theorem IsNormal_impl (p : Pl) (hs : psz p ≤ 1048576) (ws : List Int) (hl : ws.length ≤ 1048576) : Does Tryz.prog 37 [] [pD p,intsD ws] (Bo (isN ws p)) []:=by
 obtain ⟨_,_,h1⟩:=PlanWidth_fn p hs ws hl
 unfold isN
 by_cases hz : PV ws p = 0
 ·rw [show decide (PV ws p ≠ 0) = false from decide_eq_false (fun g=>g hz),Bool.false_and]
  rw [hz] at h1
  refine Bg c_Z120 mixed (go1 @intsD.eq_1 ?_)
  exact Uc @intsD.eq_1 (h1) (go0 @intsD.eq_1)
 ·rw [show decide (PV ws p ≠ 0) = true from decide_eq_true hz,Bool.true_and]
  obtain ⟨hw,hwf⟩:=PV_wf hz
  have h2:=normalizingStep_ok hw hwf
  have hne : (PV ws p != 0) = true:=bne_iff_ne.2 hz
  rw [stE_mem] at h2
  cases hf : fsP ws p with
  | none=>
   rw [hf] at h2
   unfold intsD at h2
   refine Bg c_Z120 mixed (go1 @intsD.eq_1 ?_)
   refine Uc (cj2 @intsD.eq_1 @hne) (h1) (go1 (cj2 @intsD.eq_1 @hne) ?_)
   exact Uc (cj2 @intsD.eq_1 @hne) (h2) (go0 (cj2 @intsD.eq_1 @hne))
  | some s=>
   rw [hf] at h2
   have hr:=(stepsP_mem (fsP_some hf).1).2
   have hsr : (s.1 == 0) = false:=beq_eq_false_iff_ne.2 (by omega)
   unfold intsD at h2
   refine Bg c_Z120 mixed (go1 @intsD.eq_1 ?_)
   refine Uc (cj2 @intsD.eq_1 @hne) (h1) (go1 (cj2 @intsD.eq_1 @hne) ?_)
   refine Uc (cj2 @intsD.eq_1 @hne) (h2) (go1 (cj2 @intsD.eq_1 @hne) ?_)
   exact Sub.of_eq (by rw [hsr]; rfl)
theorem apP_0 (ws : List Int) (x : Pl) : apP ws 0 [] x = none:=by
 unfold apP
 rw [show paOf x [] = some x from rfl,Option.bind_some,show ruP ws 0 x = none from rfl]
 rfl
theorem Normalize_impl (p : Pl) (hs : psz p ≤ 1048576) (ws : List Int) (hl : ws.length ≤ 1048576) : Does Tryz.prog 35 [] [pD p,intsD ws] (.tup [pD (nmO ws p).1,.sl 2 ((nmO ws p).2.map stE)]) []:=by
 obtain ⟨_,_,h1⟩:=PlanWidth_fn p hs ws hl
 unfold nmO
 by_cases hz : PV ws p = 0
 ·rw [if_pos hz]
  rw [hz] at h1
  refine Bg c_Z98 mixed (go1 @intsD.eq_1 ?_)
  refine Uc @intsD.eq_1 (h1) (go1 @intsD.eq_1 ?_)
  exact Sub.tup ⟨Sub.agg ⟨Sub.refl _,Sub.refl _,Sub.nul 5,Sub.nul 1,Sub.nul 5,trivial⟩,Sub.nul 2,trivial⟩
 ·rw [if_neg hz]
  obtain ⟨hw,hwf⟩:=PV_wf hz
  have hne : (PV ws p == 0) = false:=beq_eq_false_iff_ne.2 hz
  generalize PV ws p = w at *
  have hend : ∀ (i : Nat),i ≤ 40 → nmP ws p = nmI ws p i → ∃ q T,nmP ws p = (q,T) ∧ nmI ws p i = (q,T) ∧ T.length ≤ 40 ∧ Does Tryz.prog 52 [] [.agg [I q.k,I q.t,.sl 5 (q.es.map eD),.sl 1 (q.cs.map I),.sl 5 (q.ks.map pD)]] (pD q) []:=fun i hi he=>by
   obtain ⟨_,h2,_⟩:=nmI_as hw hwf i
   have h3:=wf_size h2
   rw [pw_8] at h3
   have h4:=clonePlan_ok (nmI ws p i).1 (by omega)
   rw [pD_eq] at h4
   unfold intsD at h4
   refine ⟨_,_,he,rfl,by have:=nmI_len ws p i; omega,?_⟩
   rw [pD_eq]
   exact h4
  suffices hh : ∀ rr : D,(∀ q T,nmP ws p = (q,T) → rr = .tup [.agg [I q.k,I q.t,.sl 5 (q.es.map eD),.sl 1 (q.cs.map I),.sl 5 (q.ks.map pD)],.sl 2 (T.map stE)]) → Does Tryz.prog 35 [] [pD p,intsD ws] rr [] from
   hh _ (fun q T hx=>by rw [hx,pD_eq]; rfl)
  intro rr hrr
  refine Bg c_Z98 mixed (go1 @intsD.eq_1 ?_)
  refine Uc (cj2 @intsD.eq_1 @hne) (h1) (go1 (cj2 @intsD.eq_1 @hne) ?_)
  refine dw_for (c:=3) (l:=fun i=>[(1,intsD ws),(2,.ref 1000000 0),(4,.ref 1000001 0),(6,.own 1000002 2 i),(1000000,.obj [I (nmI ws p i).1.k,I (nmI ws p i).1.t,.sl 5 ((nmI ws p i).1.es.map eD),intsD (nmI ws p i).1.cs,.sl 5 ((nmI ws p i).1.ks.map pD)]),(1000001,.obj [I 0,I 0,.nul,.nul,.nul]),(1000002,.row 2 ((nmI ws p i).2.map stE))]) 40 (fun i=>(nmI ws p i).2.length = i) 0 rfl ((wk_row 6 2000190 2 (by decide) (by decide) rfl rfl).trans (Wk.list [2000002,2000004,2000190] rfl rfl ?_)) (fun i hi hJ=>?_) (Nat.zero_le _)
  ·exact Ag @nmI.eq_1
  ·obtain ⟨a1,a2,_⟩:=nmI_as hw hwf i
   have hN:=normalizingStep_ok hw a2
   rw [stE_mem,pD_eq] at hN
   unfold intsD at hN
   have hlm : ((nmI ws p i).2.map stE).length = i:=by rw [List.length_map,hJ]
   have hta : ((nmI ws p i).2.map stE).take i = (nmI ws p i).2.map stE:=List.take_of_length_le (by omega)
   by_cases h40 : i = 40
   ·obtain ⟨q,T,e1,e2,hTl,hcl⟩:=hend i hi (by rw [h40]; rfl)
    have hr:=hrr q T e1
    subst hr
    rw [e2] at hJ hlm hta ⊢
    have hpu:=stE_pur T
    have hrn:=fun L=>ren_pure.renL_pure L _ hpu
    simp only at hJ hlm hta
    have hb40 : decide ((i : Int) < 40) = false:=decide_eq_false (by omega)
    refine go1F @hb40 ?_
    refine Uc trivial (hcl) (go1F trivial ?_)
    refine fin_wk (wk_frz 5 1000002 (by decide) (by decide) rfl ?_) ?_
    rotate_left
    (conv in hold _=>simp (disch:=omega) only [go_sem,hta,hlm,hrn,Nat.le_refl])
    ·refine fin_L [] ?_ ?_ rfl ?_
     all_goals exact Ag (cj3 @hta @hlm @hrn)
    ·exact hpu
   ·cases hx : nxP ws (nmI ws p i).1 with
    | none=>
     obtain ⟨q,T,e1,e2,hTl,hcl⟩:=hend i hi (nmI_to hx hi)
     have hr:=hrr q T e1
     subst hr
     rw [e2] at hJ hlm hta a1 a2 hx hN ⊢
     have hpu:=stE_pur T
     have hrn:=fun L=>ren_pure.renL_pure L _ hpu
     simp only at hJ hlm hta
     simp only at a1 a2 hx hN
     rw [nxP_none hx] at hN
     have hA:=applyTo_ok hw a2 0 [] (by decide)
     rw [apP_0] at hA
     unfold paD stD at hA
     rw [pD_eq] at hA
     unfold intsD at hA
     refine go1F trivial ?_
     refine Uc trivial (hN) (go1F trivial ?_)
     refine Uc trivial (hA) (go1F trivial ?_)
     refine Uc trivial (hcl) (go1F trivial ?_)
     refine fin_wk (wk_frz 5 1000002 (by decide) (by decide) rfl ?_) ?_
     rotate_left
     (conv in hold _=>simp (disch:=omega) only [go_sem,hta,hlm,hrn,Nat.le_refl])
     ·refine fin_L [] ?_ ?_ rfl ?_
      all_goals exact Ag (cj3 @hta @hlm @hrn)
     ·exact hpu
    | some sx=>
     obtain ⟨s,x⟩:=sx
     obtain ⟨hf,ha⟩:=nxP_some hx
     have hsm:=stepsP_mem (fsP_some hf).1
     have hsl:=pathsP_short a2 [] s.2 hsm.1
     have hA:=applyTo_ok hw a2 s.1 s.2 (by simp at hsl; omega)
     rw [hf] at hN
     rw [ha] at hA
     unfold paD stD at hA
     rw [pD_eq,pD_eq] at hA
     unfold intsD at hA
     have hn1:=nmI_some hx
     refine go1 trivial ?_
     refine Uc trivial (hN) (go1 trivial ?_)
     refine Uc (cj2 @hta @hlm) (hA) (go1 (cj2 @hta @hlm) ?_)
     refine ⟨by omega,by rw [hn1,List.length_append,hJ]; rfl,Wk.list [1000000,1000001,2000034] rfl rfl ?_⟩
     repeat' (first|(conv in hold _=>simp (disch:=omega) only [go_sem,intsD,hn1,hta,hlm])|exact trivial|exact Sub.refl _|omega)
     rw [List.map_append]
     rfl
end Go.Proofs.YtgpdmgaemhelgaaGreat
set_option maxHeartbeats 4000000
set_option maxRecDepth 100000
set_option linter.unusedVariables false
set_option linter.unusedSimpArgs false
namespace Go.Proofs.YtgpdmgaemhelgaaGreat
open Go.RowKit
theorem DrawNormalize_ok (cs : List Nat) (hc : ∀ b,b ∈ cs → b < 256) : ∃ (p : Pl) (ws : List Int),Does Tryz.prog 34 [] [bytesD cs] (.tup [pD p,intsD ws]) [] ∧ psz p ≤ 11100 ∧ (2 ≤ ws.length ∧ ws.length ≤ 3):=by
 have hs : Src (cs.take 2000):=⟨fun b hb=>hc b (List.mem_of_mem_take hb),by rw [List.length_take]; omega⟩
 have hr:=newReader_ok cs
 obtain ⟨p,ws,q,hp,hwl,_,hz,hq0,hq1⟩:=planAndWidths_ok hs 0 (by decide)
 refine ⟨p,ws,?_,hz,hwl⟩
 refine Bg c_Z39 mixed (go1 trivial ?_)
 refine UcR [3000001] trivial (hr) (go1 trivial ?_)
 exact UcR [3000001] trivial (hp) (go0 trivial)
theorem DrawIsNormal_ok (cs : List Nat) (hc : ∀ b,b ∈ cs → b < 256) : ∃ (p : Pl) (ws : List Int),Does Tryz.prog 38 [] [bytesD cs] (.tup [pD p,intsD ws]) [] ∧ psz p ≤ 457727 ∧ (2 ≤ ws.length ∧ ws.length ≤ 3):=by
 have hs : Src (cs.take 2000):=⟨fun b hb=>hc b (List.mem_of_mem_take hb),by rw [List.length_take]; omega⟩
 have hr:=newReader_ok cs
 obtain ⟨p,ws,q,hp,hwl,_,hz,hq0,hq1⟩:=planAndWidths_ok hs 0 (by decide)
 obtain ⟨v,hv,v0,v1,_⟩:=pick_ok hs q (by omega) 2 (by omega)
 have v1:=v1 (by omega)
 have hn:=Normalize_spec p (by omega) ws (by omega)
 have hnz:=nmO_sz (ws:=ws) (p:=p)
 by_cases hv0 : v = 0
 ·subst hv0
  refine ⟨(nmO ws p).1,ws,?_,hnz,hwl⟩
  generalize (nmO ws p).1 = x at *
  generalize (nmO ws p).2.map stE = ds at *
  refine Bg c_Z52 mixed (go1 trivial ?_)
  refine UcR [3000001] trivial (hr) (go1 trivial ?_)
  refine UcR [3000001] trivial (hp) (go1 trivial ?_)
  refine UcR [3000001] trivial (hv) (go1 trivial ?_)
  exact Uc trivial (hn) (go0 trivial)
 ·have hvb : (v == 0) = false:=beq_eq_false_iff_ne.2 hv0
  refine ⟨p,ws,?_,by omega,hwl⟩
  refine Bg c_Z52 mixed (go1 trivial ?_)
  refine UcR [3000001] trivial (hr) (go1 trivial ?_)
  refine UcR [3000001] trivial (hp) (go1 trivial ?_)
  exact UcR [3000001] @hvb (hv) (go0 @hvb)
end Go.Proofs.YtgpdmgaemhelgaaGreat
set_option maxHeartbeats 4000000
set_option maxRecDepth 100000
set_option linter.unusedVariables false
set_option linter.unusedSimpArgs false
namespace Go.Proofs.YtgpdmgaemhelgaaGreat
open Go.RowKit
theorem nmO_ok {ws : List Int} {p : Pl} (hz : PV ws p ≠ 0) : asO ws (nmO ws p).2 p = some (nmO ws p).1 ∧ PV ws (nmO ws p).1 = PV ws p ∧ (nmO ws p).2.length ≤ 40 ∧ (∀ u,scn u (nmO ws p).1 = scn u p) ∧ ((nmO ws p).2.length = 40 ∨ isN ws (nmO ws p).1 = true) ∧ ∀ s,s ∈ (nmO ws p).2 → s.2.length < 2000000:=by
 obtain ⟨hw,hwf⟩:=PV_wf hz
 obtain ⟨h1,h2,h3⟩:=nmI_as hw hwf 40
 have hl:=nmI_len ws p 40
 have e : nmO ws p = nmI ws p 40:=if_neg hz
 have hpv : PV ws (nmI ws p 40).1 = PV ws p:=by rw [PV_t hw]; exact (wf_to hw h2).1
 rw [e]
 refine ⟨(if_neg (by omega)).trans h1,hpv,hl,h3,?_,fun s hs=>?_⟩
 ·rcases nmI_full (ws:=ws) (p:=p) (i:=40) with h | h
  ·exact .inl h
  ·refine .inr ?_
   unfold isN
   rw [decide_eq_true (by rw [hpv]; exact hz),nxP_none h]
   rfl
 ·have hst : ∀ i,s ∈ (nmI ws p i).2 → s.2.length ≤ 8:=by
   intro i
   induction i with
   | zero=>intro h; cases h
   | succ i ih=>
    intro h
    cases hx : nxP ws (nmI ws p i).1 with
    | none=>rw [nmI_none hx] at h; exact ih h
    | some sx=>
     rw [nmI_some (s:=sx.1) (x:=sx.2) hx] at h
     rcases List.mem_append.1 h with h | h
     ·exact ih h
     ·obtain rfl:=List.mem_singleton.1 h
      have:=pathsP_short (nmI_as hw hwf i).2.1 [] sx.1.2 (stepsP_mem (fsP_some (nxP_some (s:=sx.1) (x:=sx.2) hx).1).1).1
      simpa using this
  have:=hst 40 hs
  omega
end Go.Proofs.YtgpdmgaemhelgaaGreat
