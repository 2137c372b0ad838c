/-
  The model's values of expressions. No condition.
-/
import Derived.Test.YtmdijgcaffpgiaaDca
import Derived.Test.YtmdijgcaffpgiaaVVa
import Derived.Test.YtmdijgcaffpgiaaVVal
import Derived.Test.YtmdijgcaffpgiaaVLib
set_option maxHeartbeats 4000000
set_option maxRecDepth 100000
namespace Go.Proofs.Ytmdijgcaffpgiaa
open Go.RowKit

theorem truth_ok (v : V) : Does Try.prog 67 [] [vD v] (I (tr v)) [] := by
  unfold tr
  refine does0 c_spec_truth mixed (Nat.le_of_ble_eq_true rfl) ?_
  conv => arg 3; whnf
  repeat' (first | with_reducible refine acc_none ?_ | (conv in hold _ => simp (disch := omega) only [go_sem]) | refine Stp.go ?_ | (with_reducible first | refine it_pos rfl ?_ | refine it_neg (by decide) ?_ | refine st_nil rfl ?_ | refine s_op ?_ ?_ | exact True.intro) | ((with_reducible first | refine dw_reg0 ?_ | refine dw_regB ?_); (conv => arg 3; whnf)) | (refine Spl.go (fun hq he => ?_) (fun hq he => ?_) <;> first | (exfalso; clear hq; omega) | ((try (first | (conv => arg 8; simp only [hq]) | (conv => arg 4; simp only [hq]))); clear hq)) | ((with_reducible first | refine c_split (fun hq => ?_) (fun hq => ?_) | refine q_split (fun hq => ?_) (fun hq => ?_)) <;> (try (first | (conv => arg 8; simp only [hq]) | (conv => arg 4; simp only [hq])))) | (with_reducible refine fin_0 ?_ (by first | rfl | (conv => lhs; simp only [go_sem])) ?_) | exact Sub.refl _ | omega)
  · rw [if_pos hq]; exact Sub.refl _
  · rw [if_neg (by rw [hq]; decide), if_pos he]; exact Sub.refl _
  · rw [if_neg (by rw [hq]; decide), if_neg he]; exact Sub.refl _
theorem toInt_ok (b : Bool) : Does Try.prog 66 [] [Bo b] (I (b2i b)) [] := does_toInt b
theorem mul_bound {a b : Int} (h0 : -9999 ≤ a) (h1 : a ≤ 9999) (h2 : -9999 ≤ b) (h3 : b ≤ 9999) : -99980001 ≤ a * b ∧ a * b ≤ 99980001 := by
  have h : (a * b).natAbs ≤ 9999 * 9999 := by
    rw [Int.natAbs_mul]
    exact Nat.mul_le_mul (by omega) (by omega)
  omega
end Go.Proofs.Ytmdijgcaffpgiaa
