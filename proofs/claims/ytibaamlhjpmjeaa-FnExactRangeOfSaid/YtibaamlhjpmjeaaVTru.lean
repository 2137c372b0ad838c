/-
  The program's truths of values. No condition.
-/
import Derived.Test.YtibaamlhjpmjeaaDca
import Derived.Test.YtibaamlhjpmjeaaVEvI
import Derived.Test.YtibaamlhjpmjeaaVEvS
set_option maxHeartbeats 4000000
set_option maxRecDepth 100000
set_option linter.unusedVariables false
set_option linter.unusedSimpArgs false
namespace Go.Proofs.Ytibaamlhjpmjeaa
open Go.RowKit

/-- The program's truths: 0, 1 for unknown, 2. -/
def itr (v : V) : Int := if v.b = true then 1 else if v.n = 0 then 0 else 2
def itv (n : Int) : V := if n = 0 then ⟨false, 0⟩ else if n = 2 then ⟨false, 1⟩ else ⟨true, 0⟩
theorem itr_range (v : V) : 0 ≤ itr v ∧ itr v ≤ 2 := by
  unfold itr
  split
  · decide
  · split <;> decide
theorem itv_b2i (b : Bool) : itv (if b = true then 2 else 0) = ⟨false, b2i b⟩ := by cases b <;> rfl
theorem itv_not (v : V) : itv (2 - itr v) = ofTr (notTr (tr v)) := by
  unfold itr tr
  split
  · rfl
  · split <;> rfl
theorem itv_and (a b : V) : itv (min (itr a) (itr b)) = ofTr (andTr (tr a) (tr b)) := by
  unfold itr tr
  repeat' split
  all_goals rfl
theorem itv_or (a b : V) : itv (max (itr a) (itr b)) = ofTr (notTr (andTr (notTr (tr a)) (notTr (tr b)))) := by
  unfold itr tr
  repeat' split
  all_goals rfl

theorem truth_of_ok (v : V) : Does Try.prog 106 [] [vD v] (I (itr v)) [] := by
  unfold itr
  refine does0 c_impl_Value_truth mixed (Nat.le_of_ble_eq_true rfl) ?_
  conv => arg 3; whnf
  repeat' (first | with_reducible refine acc_none ?_ | (conv in hold _ => simp (disch := omega) only [go_sem]) | refine Stp.go ?_ | (with_reducible first | refine it_pos rfl ?_ | refine it_neg (by decide) ?_ | refine st_nil rfl ?_ | refine s_op ?_ ?_ | exact True.intro) | ((with_reducible first | refine dw_reg0 ?_ | refine dw_regB ?_); (conv => arg 3; whnf)) | (refine Spl.go (fun hq he => ?_) (fun hq he => ?_) <;> first | (exfalso; clear hq; omega) | ((try (first | (conv => arg 8; simp only [hq]) | (conv => arg 4; simp only [hq]))); clear hq)) | ((with_reducible first | refine c_split (fun hq => ?_) (fun hq => ?_) | refine q_split (fun hq => ?_) (fun hq => ?_)) <;> (try (first | (conv => arg 8; simp only [hq]) | (conv => arg 4; simp only [hq])))) | (with_reducible refine fin_0 ?_ (by first | rfl | (conv => lhs; simp only [go_sem])) ?_) | exact Sub.refl _ | omega)
  · rw [if_pos hq]; exact Sub.refl _
  · rw [if_neg (by rw [hq]; decide), if_pos he]; exact Sub.refl _
  · rw [if_neg (by rw [hq]; decide), if_neg he]; exact Sub.refl _
end Go.Proofs.Ytibaamlhjpmjeaa
