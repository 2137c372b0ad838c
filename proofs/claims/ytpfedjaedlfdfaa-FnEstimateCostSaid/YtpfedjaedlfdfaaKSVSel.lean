/-
  Selectivity, in both packages. No condition.
-/
import Derived.Test.YtpfedjaedlfdfaaKSDca
import Derived.Test.YtpfedjaedlfdfaaKSDcb
import Derived.Test.YtpfedjaedlfdfaaKSVSzS
import Derived.Test.YtpfedjaedlfdfaaJSVEvS
import Derived.Test.YtpfedjaedlfdfaaJSVCmpR
import Derived.Test.YtpfedjaedlfdfaaJSVCall
set_option maxHeartbeats 4000000
set_option maxRecDepth 100000
namespace Go.Proofs.Ytpfedjaedlfdfaa
open Go.RowKit
theorem mul_range {a b : Int} (ha : 0 ≤ a ∧ a ≤ 1000) (hb : 0 ≤ b ∧ b ≤ 1000) : 0 ≤ a * b ∧ a * b ≤ 1000 * a ∧ 1000 * (a + b - 1000) ≤ a * b := by
  have h1 := Int.mul_nonneg ha.1 hb.1
  have h2 := Int.mul_le_mul_of_nonneg_left hb.2 ha.1
  have h3 := Int.mul_nonneg (show 0 ≤ 1000 - a by omega) (show 0 ≤ 1000 - b by omega)
  have h4 : (1000 - a) * (1000 - b) = 1000000 - 1000 * a - 1000 * b + a * b := by
    rw [Int.sub_mul, Int.mul_sub, Int.mul_sub]
    have := Int.mul_comm a 1000
    omega
  have h5 := Int.mul_comm a 1000
  omega
theorem red_range {a b : Int} (ha : 0 ≤ a ∧ a ≤ 1000) (hb : 0 ≤ b ∧ b ≤ 1000) : 0 ≤ (a * b).tdiv 1000 ∧ (a * b).tdiv 1000 ≤ a ∧ a + b - 1000 ≤ (a * b).tdiv 1000 := by
  have h := mul_range ha hb
  rw [Int.tdiv_eq_ediv_of_nonneg h.1]
  omega
theorem reduced_ok {a b : Int} (ha : 0 ≤ a ∧ a ≤ 1000) (hb : 0 ≤ b ∧ b ≤ 1000) : Does Try.prog 156 [] [I a, I b] (I ((a * b).tdiv 1000)) [] := by
  have h := mul_range ha hb
  have h1 := red_range ha hb
  refine does0 c_impl_reduced mixed (Nat.le_of_ble_eq_true rfl) ?_
  conv => arg 3; whnf
  repeat' (first|with_reducible refine acc_none ?_ | (conv in hold _=>simp (disch:=omega) only [go_sem])|refine Stp.go ?_|(with_reducible first|refine it_pos rfl ?_|refine it_neg (by decide) ?_|refine st_nil rfl ?_|refine s_op ?_ ?_|exact trivial)|((with_reducible first|refine dw_reg0 ?_|refine dw_regB ?_);(conv=>arg 3;whnf))|(refine Spl.go (fun hq he=>?_) (fun hq he=>?_)<;>first|(exfalso;clear hq;omega)|((try first|(conv=>arg 8;simp only [hq])|(conv=>arg 4;simp only [hq]));clear hq))|((with_reducible first|refine c_split (fun hq=>?_) (fun hq=>?_)|refine q_split (fun hq=>?_) (fun hq=>?_))<;>(try first|(conv=>arg 8;simp only [hq])|(conv=>arg 4;simp only [hq])))|(with_reducible refine fin_0 ?_ (by first|rfl|(conv=>lhs;simp only [go_sem])) ?_)|exact Sub.refl _|omega)
/-- The permille of a column's value. -/
def equV (n x y : Int) : Int := if n = 0 ∨ x = 0 then 0 else (1000 * (n - y)).tdiv (n * x)
theorem equ_range {n x y : Int} (hn : 0 ≤ n ∧ n ≤ 400) (hs : (0 ≤ y ∧ y ≤ n) ∧ 0 ≤ x ∧ x ≤ n - y) (h : ¬ (n = 0 ∨ x = 0)) : (0 < n * x ∧ n * x ≤ 160000) ∧ 0 ≤ (1000 * (n - y)).tdiv (n * x) ∧ (1000 * (n - y)).tdiv (n * x) ≤ 1000 := by
  have h1 : 0 < n * x := Int.mul_pos (by omega) (by omega)
  have h2 : n * x ≤ 400 * 400 := Int.mul_le_mul hn.2 (by omega) (by omega) (by omega)
  have h3 : n * 1 ≤ n * x := Int.mul_le_mul_of_nonneg_left (by omega) hn.1
  rw [Int.tdiv_eq_ediv_of_nonneg (by omega)]
  refine ⟨⟨h1, by omega⟩, Int.ediv_nonneg (by omega) (by omega), ?_⟩
  exact Int.ediv_le_of_le_mul h1 (by omega)
theorem equality_ok (s : St) (c : Nat) (x y : Int) (hx : s.ds[c]? = some x) (hy : s.ns[c]? = some y) (hn : 0 ≤ s.n ∧ s.n ≤ 400) (hs : (0 ≤ y ∧ y ≤ s.n) ∧ 0 ≤ x ∧ x ≤ s.n - y) :
    Does Try.prog 95 [] [stD s, I c] (I (equV s.n x y)) [] := by
  have h1 := (List.getElem?_eq_some_iff.1 hx).1
  have h2 := (List.getElem?_eq_some_iff.1 hy).1
  by_cases h0 : s.n = 0 ∨ x = 0
  · rw [show equV s.n x y = 0 from if_pos h0]
    refine does0 c_spec_equality mixed (Nat.le_of_ble_eq_true rfl) ?_
    conv => arg 3; whnf
    repeat' (first|with_reducible refine acc_none ?_ | (conv in hold _=>simp (disch:=omega) only [go_sem, stD, intsD, List.getElem?_map, hx, hy, Option.map_some])|refine Stp.go ?_|(with_reducible first|refine it_pos rfl ?_|refine it_neg (by decide) ?_|refine st_nil rfl ?_|refine s_op ?_ ?_|exact trivial)|((with_reducible first|refine dw_reg0 ?_|refine dw_regB ?_);(conv=>arg 3;whnf))|(refine Spl.go (fun hq he=>?_) (fun hq he=>?_)<;>first|(exfalso;clear hq;omega)|((try first|(conv=>arg 8;simp only [hq])|(conv=>arg 4;simp only [hq]));clear hq))|((with_reducible first|refine c_split (fun hq=>?_) (fun hq=>?_)|refine q_split (fun hq=>?_) (fun hq=>?_))<;>(try first|(conv=>arg 8;simp only [hq])|(conv=>arg 4;simp only [hq])))|(with_reducible refine fin_0 ?_ (by first|rfl|(conv=>lhs;simp only [go_sem, stD, intsD, List.getElem?_map, hx, hy, Option.map_some])) ?_)|exact Sub.refl _|omega)
  · rw [show equV s.n x y = (1000 * (s.n - y)).tdiv (s.n * x) from if_neg h0]
    have h3 := equ_range hn hs h0
    refine does0 c_spec_equality mixed (Nat.le_of_ble_eq_true rfl) ?_
    conv => arg 3; whnf
    repeat' (first|with_reducible refine acc_none ?_ | (conv in hold _=>simp (disch:=omega) only [go_sem, stD, intsD, List.getElem?_map, hx, hy, Option.map_some])|refine Stp.go ?_|(with_reducible first|refine it_pos rfl ?_|refine it_neg (by decide) ?_|refine st_nil rfl ?_|refine s_op ?_ ?_|exact trivial)|((with_reducible first|refine dw_reg0 ?_|refine dw_regB ?_);(conv=>arg 3;whnf))|(refine Spl.go (fun hq he=>?_) (fun hq he=>?_)<;>first|(exfalso;clear hq;omega)|((try first|(conv=>arg 8;simp only [hq])|(conv=>arg 4;simp only [hq]));clear hq))|((with_reducible first|refine c_split (fun hq=>?_) (fun hq=>?_)|refine q_split (fun hq=>?_) (fun hq=>?_))<;>(try first|(conv=>arg 8;simp only [hq])|(conv=>arg 4;simp only [hq])))|(with_reducible refine fin_0 ?_ (by first|rfl|(conv=>lhs;simp only [go_sem, stD, intsD, List.getElem?_map, hx, hy, Option.map_some])) ?_)|exact Sub.refl _|omega)
theorem constantPermille_ok (v : V) : Does Try.prog 159 [] [vD v] (I (if itr v = 2 then 1000 else 0)) [] := by
  have h := truth_of_ok v
  by_cases h2 : itr v = 2
  · rw [if_pos h2]
    refine does0 c_impl_constantPermille mixed (Nat.le_of_ble_eq_true rfl) ?_
    conv => arg 3; whnf
    repeat' (first
      | with_reducible refine acc_none ?_ | (conv in hold _=>simp (disch:=omega) only [go_sem])|refine Stp.go ?_|(with_reducible first|refine it_pos rfl ?_|refine it_neg (by decide) ?_|refine st_nil rfl ?_|refine s_op ?_ ?_|exact trivial)|((with_reducible first|refine dw_reg0 ?_|refine dw_regB ?_);(conv=>arg 3;whnf))|(refine Spl.go (fun hq he=>?_) (fun hq he=>?_)<;>first|(exfalso;clear hq;omega)|((try first|(conv=>arg 8;simp only [hq])|(conv=>arg 4;simp only [hq]));clear hq))|((with_reducible first|refine c_split (fun hq=>?_) (fun hq=>?_)|refine q_split (fun hq=>?_) (fun hq=>?_))<;>(try first|(conv=>arg 8;simp only [hq])|(conv=>arg 4;simp only [hq])))|(with_reducible refine fin_0 ?_ (by first|rfl|(conv=>lhs;simp only [go_sem])) ?_)
      | (with_reducible show evC _ _ _ _ _ _ _ _ _ _ _ _
         first
         | (refine c_doesE (h) ?_ ?_ ?_
            · ((try (conv=>rhs;simp (disch:=omega) only [go_sem])); try rfl)
            · first|rfl|(conv=>lhs;simp only [go_sem])))|exact Sub.refl _|omega)
  · rw [if_neg h2]
    refine does0 c_impl_constantPermille mixed (Nat.le_of_ble_eq_true rfl) ?_
    conv => arg 3; whnf
    repeat' (first
      | with_reducible refine acc_none ?_ | (conv in hold _=>simp (disch:=omega) only [go_sem])|refine Stp.go ?_|(with_reducible first|refine it_pos rfl ?_|refine it_neg (by decide) ?_|refine st_nil rfl ?_|refine s_op ?_ ?_|exact trivial)|((with_reducible first|refine dw_reg0 ?_|refine dw_regB ?_);(conv=>arg 3;whnf))|(refine Spl.go (fun hq he=>?_) (fun hq he=>?_)<;>first|(exfalso;clear hq;omega)|((try first|(conv=>arg 8;simp only [hq])|(conv=>arg 4;simp only [hq]));clear hq))|((with_reducible first|refine c_split (fun hq=>?_) (fun hq=>?_)|refine q_split (fun hq=>?_) (fun hq=>?_))<;>(try first|(conv=>arg 8;simp only [hq])|(conv=>arg 4;simp only [hq])))|(with_reducible refine fin_0 ?_ (by first|rfl|(conv=>lhs;simp only [go_sem])) ?_)
      | (with_reducible show evC _ _ _ _ _ _ _ _ _ _ _ _
         first
         | (refine c_doesE (h) ?_ ?_ ?_
            · ((try (conv=>rhs;simp (disch:=omega) only [go_sem])); try rfl)
            · first|rfl|(conv=>lhs;simp only [go_sem])))|exact Sub.refl _|omega)
theorem equalPermille_ok (s : St) (a b : E) (h1 : a.k = 1) (h2 : b.k = 2) (h3 : b.v.b = false) (c : Nat) (hc : a.c = c) (x y : Int) (hx : s.ds[c]? = some x) (hy : s.ns[c]? = some y) (hn : 0 ≤ s.n ∧ s.n ≤ 400) (hs : (0 ≤ y ∧ y ≤ s.n) ∧ 0 ≤ x ∧ x ≤ s.n - y) :
    Does Try.prog 160 [] [stD s, eD a, eD b] (I (equV s.n x y)) [] := by
  have h4 := (List.getElem?_eq_some_iff.1 hx).1
  have h5 := (List.getElem?_eq_some_iff.1 hy).1
  by_cases h0 : s.n = 0 ∨ x = 0
  · rw [show equV s.n x y = 0 from if_pos h0]
    refine does0 c_impl_Stats_equalPermille mixed (Nat.le_of_ble_eq_true rfl) ?_
    conv => arg 3; whnf
    repeat' (first|with_reducible refine acc_none ?_ | (conv in hold _=>simp (disch:=omega) only [go_sem, stD, intsD, List.getElem?_map, hx, hy, Option.map_some, hc, h3])|refine Stp.go ?_|(with_reducible first|refine it_pos rfl ?_|refine it_neg (by decide) ?_|refine st_nil rfl ?_|refine s_op ?_ ?_|exact trivial)|((with_reducible first|refine dw_reg0 ?_|refine dw_regB ?_);(conv=>arg 3;whnf))|(refine Spl.go (fun hq he=>?_) (fun hq he=>?_)<;>first|(exfalso;clear hq;omega)|((try first|(conv=>arg 8;simp only [hq])|(conv=>arg 4;simp only [hq]));clear hq))|((with_reducible first|refine c_split (fun hq=>?_) (fun hq=>?_)|refine q_split (fun hq=>?_) (fun hq=>?_))<;>(try first|(conv=>arg 8;simp only [hq])|(conv=>arg 4;simp only [hq])))|(with_reducible refine fin_0 ?_ (by first|rfl|(conv=>lhs;simp only [go_sem, stD, intsD, List.getElem?_map, hx, hy, Option.map_some, hc, h3])) ?_)|exact Sub.refl _|omega)
  · rw [show equV s.n x y = (1000 * (s.n - y)).tdiv (s.n * x) from if_neg h0]
    have h6 := equ_range hn hs h0
    refine does0 c_impl_Stats_equalPermille mixed (Nat.le_of_ble_eq_true rfl) ?_
    conv => arg 3; whnf
    repeat' (first|with_reducible refine acc_none ?_ | (conv in hold _=>simp (disch:=omega) only [go_sem, stD, intsD, List.getElem?_map, hx, hy, Option.map_some, hc, h3])|refine Stp.go ?_|(with_reducible first|refine it_pos rfl ?_|refine it_neg (by decide) ?_|refine st_nil rfl ?_|refine s_op ?_ ?_|exact trivial)|((with_reducible first|refine dw_reg0 ?_|refine dw_regB ?_);(conv=>arg 3;whnf))|(refine Spl.go (fun hq he=>?_) (fun hq he=>?_)<;>first|(exfalso;clear hq;omega)|((try first|(conv=>arg 8;simp only [hq])|(conv=>arg 4;simp only [hq]));clear hq))|((with_reducible first|refine c_split (fun hq=>?_) (fun hq=>?_)|refine q_split (fun hq=>?_) (fun hq=>?_))<;>(try first|(conv=>arg 8;simp only [hq])|(conv=>arg 4;simp only [hq])))|(with_reducible refine fin_0 ?_ (by first|rfl|(conv=>lhs;simp only [go_sem, stD, intsD, List.getElem?_map, hx, hy, Option.map_some, hc, h3])) ?_)|exact Sub.refl _|omega)
theorem equalPermille_no (s : St) (a b : E) (h : ¬ (a.k = 1 ∧ b.k = 2 ∧ b.v.b = false)) : Does Try.prog 160 [] [stD s, eD a, eD b] (I 100) [] := by
  by_cases h1 : a.k = 1
  · by_cases h2 : b.k = 2
    · have h3 : b.v.b = true := by
        cases hb : b.v.b with
        | true => rfl
        | false => exact (h ⟨h1, h2, hb⟩).elim
      refine does0 c_impl_Stats_equalPermille mixed (Nat.le_of_ble_eq_true rfl) ?_
      conv => arg 3; whnf
      repeat' (first|with_reducible refine acc_none ?_ | (conv in hold _=>simp (disch:=omega) only [go_sem, stD, intsD, h3])|refine Stp.go ?_|(with_reducible first|refine it_pos rfl ?_|refine it_neg (by decide) ?_|refine st_nil rfl ?_|refine s_op ?_ ?_|exact trivial)|((with_reducible first|refine dw_reg0 ?_|refine dw_regB ?_);(conv=>arg 3;whnf))|(refine Spl.go (fun hq he=>?_) (fun hq he=>?_)<;>first|(exfalso;clear hq;omega)|((try first|(conv=>arg 8;simp only [hq])|(conv=>arg 4;simp only [hq]));clear hq))|((with_reducible first|refine c_split (fun hq=>?_) (fun hq=>?_)|refine q_split (fun hq=>?_) (fun hq=>?_))<;>(try first|(conv=>arg 8;simp only [hq])|(conv=>arg 4;simp only [hq])))|(with_reducible refine fin_0 ?_ (by first|rfl|(conv=>lhs;simp only [go_sem, stD, intsD, h3])) ?_)|exact Sub.refl _|omega)
    · refine does0 c_impl_Stats_equalPermille mixed (Nat.le_of_ble_eq_true rfl) ?_
      conv => arg 3; whnf
      repeat' (first|with_reducible refine acc_none ?_ | (conv in hold _=>simp (disch:=omega) only [go_sem, stD, intsD])|refine Stp.go ?_|(with_reducible first|refine it_pos rfl ?_|refine it_neg (by decide) ?_|refine st_nil rfl ?_|refine s_op ?_ ?_|exact trivial)|((with_reducible first|refine dw_reg0 ?_|refine dw_regB ?_);(conv=>arg 3;whnf))|(refine Spl.go (fun hq he=>?_) (fun hq he=>?_)<;>first|(exfalso;clear hq;omega)|((try first|(conv=>arg 8;simp only [hq])|(conv=>arg 4;simp only [hq]));clear hq))|((with_reducible first|refine c_split (fun hq=>?_) (fun hq=>?_)|refine q_split (fun hq=>?_) (fun hq=>?_))<;>(try first|(conv=>arg 8;simp only [hq])|(conv=>arg 4;simp only [hq])))|(with_reducible refine fin_0 ?_ (by first|rfl|(conv=>lhs;simp only [go_sem, stD, intsD])) ?_)|exact Sub.refl _|omega)
  · refine does0 c_impl_Stats_equalPermille mixed (Nat.le_of_ble_eq_true rfl) ?_
    conv => arg 3; whnf
    repeat' (first|with_reducible refine acc_none ?_ | (conv in hold _=>simp (disch:=omega) only [go_sem, stD, intsD])|refine Stp.go ?_|(with_reducible first|refine it_pos rfl ?_|refine it_neg (by decide) ?_|refine st_nil rfl ?_|refine s_op ?_ ?_|exact trivial)|((with_reducible first|refine dw_reg0 ?_|refine dw_regB ?_);(conv=>arg 3;whnf))|(refine Spl.go (fun hq he=>?_) (fun hq he=>?_)<;>first|(exfalso;clear hq;omega)|((try first|(conv=>arg 8;simp only [hq])|(conv=>arg 4;simp only [hq]));clear hq))|((with_reducible first|refine c_split (fun hq=>?_) (fun hq=>?_)|refine q_split (fun hq=>?_) (fun hq=>?_))<;>(try first|(conv=>arg 8;simp only [hq])|(conv=>arg 4;simp only [hq])))|(with_reducible refine fin_0 ?_ (by first|rfl|(conv=>lhs;simp only [go_sem, stD, intsD])) ?_)|exact Sub.refl _|omega)
theorem nullPermille_ok (s : St) (a : E) (h1 : a.k = 1) (h2 : 0 < s.n) (c : Nat) (hc : a.c = c) (y : Int) (hy : s.ns[c]? = some y) (hn : 0 ≤ s.n ∧ s.n ≤ 400) (hs : 0 ≤ y ∧ y ≤ s.n) :
    Does Try.prog 132 [] [stD s, eD a] (I ((1000 * y).tdiv s.n)) [] := by
  have h5 := (List.getElem?_eq_some_iff.1 hy).1
  have h6 : 0 ≤ (1000 * y).tdiv s.n ∧ (1000 * y).tdiv s.n ≤ 1000 := by
    rw [Int.tdiv_eq_ediv_of_nonneg (by omega)]
    exact ⟨Int.ediv_nonneg (by omega) (by omega), Int.ediv_le_of_le_mul h2 (by omega)⟩
  refine does0 c_impl_Stats_nullPermille mixed (Nat.le_of_ble_eq_true rfl) ?_
  conv => arg 3; whnf
  repeat' (first|with_reducible refine acc_none ?_ | (conv in hold _=>simp (disch:=omega) only [go_sem, stD, intsD, List.getElem?_map, hy, Option.map_some, hc])|refine Stp.go ?_|(with_reducible first|refine it_pos rfl ?_|refine it_neg (by decide) ?_|refine st_nil rfl ?_|refine s_op ?_ ?_|exact trivial)|((with_reducible first|refine dw_reg0 ?_|refine dw_regB ?_);(conv=>arg 3;whnf))|(refine Spl.go (fun hq he=>?_) (fun hq he=>?_)<;>first|(exfalso;clear hq;omega)|((try first|(conv=>arg 8;simp only [hq])|(conv=>arg 4;simp only [hq]));clear hq))|((with_reducible first|refine c_split (fun hq=>?_) (fun hq=>?_)|refine q_split (fun hq=>?_) (fun hq=>?_))<;>(try first|(conv=>arg 8;simp only [hq])|(conv=>arg 4;simp only [hq])))|(with_reducible refine fin_0 ?_ (by first|rfl|(conv=>lhs;simp only [go_sem, stD, intsD, List.getElem?_map, hy, Option.map_some, hc])) ?_)|exact Sub.refl _|omega)
theorem nullPermille_no (s : St) (a : E) (h : ¬ (a.k = 1 ∧ ¬ s.n = 0)) : Does Try.prog 132 [] [stD s, eD a] (I 0) [] := by
  by_cases h1 : a.k = 1
  · have h2 : s.n = 0 := by omega
    refine does0 c_impl_Stats_nullPermille mixed (Nat.le_of_ble_eq_true rfl) ?_
    conv => arg 3; whnf
    repeat' (first|with_reducible refine acc_none ?_ | (conv in hold _=>simp (disch:=omega) only [go_sem, stD, intsD])|refine Stp.go ?_|(with_reducible first|refine it_pos rfl ?_|refine it_neg (by decide) ?_|refine st_nil rfl ?_|refine s_op ?_ ?_|exact trivial)|((with_reducible first|refine dw_reg0 ?_|refine dw_regB ?_);(conv=>arg 3;whnf))|(refine Spl.go (fun hq he=>?_) (fun hq he=>?_)<;>first|(exfalso;clear hq;omega)|((try first|(conv=>arg 8;simp only [hq])|(conv=>arg 4;simp only [hq]));clear hq))|((with_reducible first|refine c_split (fun hq=>?_) (fun hq=>?_)|refine q_split (fun hq=>?_) (fun hq=>?_))<;>(try first|(conv=>arg 8;simp only [hq])|(conv=>arg 4;simp only [hq])))|(with_reducible refine fin_0 ?_ (by first|rfl|(conv=>lhs;simp only [go_sem, stD, intsD])) ?_)|exact Sub.refl _|omega)
  · refine does0 c_impl_Stats_nullPermille mixed (Nat.le_of_ble_eq_true rfl) ?_
    conv => arg 3; whnf
    repeat' (first|with_reducible refine acc_none ?_ | (conv in hold _=>simp (disch:=omega) only [go_sem, stD, intsD])|refine Stp.go ?_|(with_reducible first|refine it_pos rfl ?_|refine it_neg (by decide) ?_|refine st_nil rfl ?_|refine s_op ?_ ?_|exact trivial)|((with_reducible first|refine dw_reg0 ?_|refine dw_regB ?_);(conv=>arg 3;whnf))|(refine Spl.go (fun hq he=>?_) (fun hq he=>?_)<;>first|(exfalso;clear hq;omega)|((try first|(conv=>arg 8;simp only [hq])|(conv=>arg 4;simp only [hq]));clear hq))|((with_reducible first|refine c_split (fun hq=>?_) (fun hq=>?_)|refine q_split (fun hq=>?_) (fun hq=>?_))<;>(try first|(conv=>arg 8;simp only [hq])|(conv=>arg 4;simp only [hq])))|(with_reducible refine fin_0 ?_ (by first|rfl|(conv=>lhs;simp only [go_sem, stD, intsD])) ?_)|exact Sub.refl _|omega)
end Go.Proofs.Ytpfedjaedlfdfaa
