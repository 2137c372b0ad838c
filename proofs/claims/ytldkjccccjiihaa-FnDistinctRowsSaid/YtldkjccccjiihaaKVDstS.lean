/-
  Distinct rows of both packages. No condition.
-/
import Derived.Test.YtldkjccccjiihaaDca
import Derived.Test.YtldkjccccjiihaaDcc
import Derived.Test.YtldkjccccjiihaaKVDst
import Derived.Test.YtldkjccccjiihaaKVCmp
import Derived.Test.YtldkjccccjiihaaVCnt
import Derived.Test.YtldkjccccjiihaaVTbI
set_option maxHeartbeats 4000000
set_option maxRecDepth 100000
set_option linter.unusedVariables false
set_option linter.unusedSimpArgs false
namespace Go.Proofs.Ytldkjccccjiihaa
open Go.RowKit

/-- The distinct rows of a table. -/
def dsT (t : Ta) : Ta := ⟨t.w, dstL t.rows t.rows.length⟩
theorem dsT_len (t : Ta) : (dsT t).rows.length ≤ t.rows.length := by
  have h := (dstL_sub t.rows t.rows.length (Nat.le_refl _)).length_le
  rw [List.take_length] at h
  exact h
theorem dsT_ok {t : Ta} (h : tOk t) : tOk (dsT t) ∧ AscS (dsT t).rows ∧ ∀ x, x ∈ (dsT t).rows ↔ x ∈ t.rows := by
  obtain ⟨w, hw, hw6, hr, ha, hl⟩ := tOk_nat h
  obtain ⟨h1, h2⟩ := dst_ascS hr ha
  have h3 := dst_rsw hr
  refine ⟨?_, h1, h2⟩
  show tOk ⟨t.w, _⟩
  rw [hw]
  exact tOk_of hw6 (Nat.le_trans (dsT_len t) hl) h3 h1.asc
theorem DistinctRows_spec_t {t : Ta} (h : tOk t) : Does Try.prog 11 [] [taD t] (.tup [taD (dsT t), Bo true]) [] := by
  have hv := validTable_ok t (tOk_sz h)
  rw [decide_eq_true h] at hv
  obtain ⟨w, hw, hw6, hr, _, hl⟩ := tOk_nat h
  have hd := distinctRows_ok (w := w) (by omega) t.rows hl hr
  rw [← hw] at hd
  have hd : Does Try.prog 27 [] [taD t] (taD (dsT t)) [] := hd
  refine does0 c_spec_DistinctRows mixed (Nat.le_of_ble_eq_true rfl) ?_
  conv => arg 3; whnf
  repeat' (first | with_reducible refine acc_none ?_ | (conv in hold _ => simp (disch := omega) only [go_sem]) | refine Stp.go ?_ | (with_reducible first | refine it_pos rfl ?_ | refine it_neg (by decide) ?_ | refine st_nil rfl ?_ | refine s_op ?_ ?_ | exact True.intro) | ((with_reducible first | refine dw_reg0 ?_ | refine dw_regB ?_); (conv => arg 3; whnf)) | (refine Spl.go (fun hq he => ?_) (fun hq he => ?_) <;> first | (exfalso; clear hq; omega) | ((try (first | (conv => arg 8; simp only [hq]) | (conv => arg 4; simp only [hq]))); clear hq)) | ((with_reducible first | refine c_split (fun hq => ?_) (fun hq => ?_) | refine q_split (fun hq => ?_) (fun hq => ?_)) <;> (try (first | (conv => arg 8; simp only [hq]) | (conv => arg 4; simp only [hq])))) | (with_reducible refine fin_0 ?_ (by first | rfl | (conv => lhs; simp only [go_sem])) ?_) | exact Sub.refl _ | omega)
  refine c_doesE (hv) ?_ ?_ ?_
  · ((try (conv => rhs; simp (disch := omega) only [go_sem])); try rfl)
  · first | rfl | (conv => lhs; simp only [go_sem])
  repeat' (first | with_reducible refine acc_none ?_ | (conv in hold _ => simp (disch := omega) only [go_sem]) | refine Stp.go ?_ | (with_reducible first | refine it_pos rfl ?_ | refine it_neg (by decide) ?_ | refine st_nil rfl ?_ | refine s_op ?_ ?_ | exact True.intro) | ((with_reducible first | refine dw_reg0 ?_ | refine dw_regB ?_); (conv => arg 3; whnf)) | (refine Spl.go (fun hq he => ?_) (fun hq he => ?_) <;> first | (exfalso; clear hq; omega) | ((try (first | (conv => arg 8; simp only [hq]) | (conv => arg 4; simp only [hq]))); clear hq)) | ((with_reducible first | refine c_split (fun hq => ?_) (fun hq => ?_) | refine q_split (fun hq => ?_) (fun hq => ?_)) <;> (try (first | (conv => arg 8; simp only [hq]) | (conv => arg 4; simp only [hq])))) | (with_reducible refine fin_0 ?_ (by first | rfl | (conv => lhs; simp only [go_sem])) ?_) | exact Sub.refl _ | omega)
  refine c_doesE (hd) ?_ ?_ ?_
  · ((try (conv => rhs; simp (disch := omega) only [go_sem])); try rfl)
  · first | rfl | (conv => lhs; simp only [go_sem])
  repeat' (first | with_reducible refine acc_none ?_ | (conv in hold _ => simp (disch := omega) only [go_sem]) | refine Stp.go ?_ | (with_reducible first | refine it_pos rfl ?_ | refine it_neg (by decide) ?_ | refine st_nil rfl ?_ | refine s_op ?_ ?_ | exact True.intro) | ((with_reducible first | refine dw_reg0 ?_ | refine dw_regB ?_); (conv => arg 3; whnf)) | (refine Spl.go (fun hq he => ?_) (fun hq he => ?_) <;> first | (exfalso; clear hq; omega) | ((try (first | (conv => arg 8; simp only [hq]) | (conv => arg 4; simp only [hq]))); clear hq)) | ((with_reducible first | refine c_split (fun hq => ?_) (fun hq => ?_) | refine q_split (fun hq => ?_) (fun hq => ?_)) <;> (try (first | (conv => arg 8; simp only [hq]) | (conv => arg 4; simp only [hq])))) | (with_reducible refine fin_0 ?_ (by first | rfl | (conv => lhs; simp only [go_sem])) ?_) | exact Sub.refl _ | omega)
theorem DistinctRows_spec_f {t : Ta} (hs : rsz t.rows ≤ 1048576) (h : ¬ tOk t) : Does Try.prog 11 [] [taD t] (.tup [taD ⟨0, []⟩, Bo false]) [] := by
  have hv := validTable_ok t hs
  rw [decide_eq_false h] at hv
  refine does0 c_spec_DistinctRows mixed (Nat.le_of_ble_eq_true rfl) ?_
  conv => arg 3; whnf
  repeat' (first | with_reducible refine acc_none ?_ | (conv in hold _ => simp (disch := omega) only [go_sem]) | refine Stp.go ?_ | (with_reducible first | refine it_pos rfl ?_ | refine it_neg (by decide) ?_ | refine st_nil rfl ?_ | refine s_op ?_ ?_ | exact True.intro) | ((with_reducible first | refine dw_reg0 ?_ | refine dw_regB ?_); (conv => arg 3; whnf)) | (refine Spl.go (fun hq he => ?_) (fun hq he => ?_) <;> first | (exfalso; clear hq; omega) | ((try (first | (conv => arg 8; simp only [hq]) | (conv => arg 4; simp only [hq]))); clear hq)) | ((with_reducible first | refine c_split (fun hq => ?_) (fun hq => ?_) | refine q_split (fun hq => ?_) (fun hq => ?_)) <;> (try (first | (conv => arg 8; simp only [hq]) | (conv => arg 4; simp only [hq])))) | (with_reducible refine fin_0 ?_ (by first | rfl | (conv => lhs; simp only [go_sem])) ?_) | exact Sub.refl _ | omega)
  refine c_doesE (hv) ?_ ?_ ?_
  · ((try (conv => rhs; simp (disch := omega) only [go_sem])); try rfl)
  · first | rfl | (conv => lhs; simp only [go_sem])
  repeat' (first | with_reducible refine acc_none ?_ | (conv in hold _ => simp (disch := omega) only [go_sem]) | refine Stp.go ?_ | (with_reducible first | refine it_pos rfl ?_ | refine it_neg (by decide) ?_ | refine st_nil rfl ?_ | refine s_op ?_ ?_ | exact True.intro) | ((with_reducible first | refine dw_reg0 ?_ | refine dw_regB ?_); (conv => arg 3; whnf)) | (refine Spl.go (fun hq he => ?_) (fun hq he => ?_) <;> first | (exfalso; clear hq; omega) | ((try (first | (conv => arg 8; simp only [hq]) | (conv => arg 4; simp only [hq]))); clear hq)) | ((with_reducible first | refine c_split (fun hq => ?_) (fun hq => ?_) | refine q_split (fun hq => ?_) (fun hq => ?_)) <;> (try (first | (conv => arg 8; simp only [hq]) | (conv => arg 4; simp only [hq])))) | (with_reducible refine fin_0 ?_ (by first | rfl | (conv => lhs; simp only [go_sem])) ?_) | exact Sub.refl _ | omega)
  exact sub_zero
theorem DistinctRows_in {t : Ta} (h : tOk t) : Does Try.prog 8 [] [taD t] (.tup [taD (dsT t), Bo true]) [] := DistinctRows_impl_t h
theorem CountRow_tOk {t : Ta} (ht : tOk t) {r : List V} (hr : r.length ≤ 1048576) : Does Try.prog 6 [] [taD t, rowD r] (I (cntE r t.rows)) [] := by
  have := CountRow_impl t r (tOk_sz ht) hr
  unfold cntA at this
  rwa [if_pos ht] at this
theorem row_6 {t : Ta} (h : tOk t) {x : List V} (hx : x ∈ t.rows) : x.length ≤ 6 := by
  obtain ⟨w, hw, hw6, hr, _, _⟩ := tOk_nat h
  have := (hr x hx).1
  omega
theorem ds_same {t : Ta} (h : tOk t) : dsT (dsT t) = dsT t := by
  obtain ⟨h1, h2, h3⟩ := dsT_ok h
  obtain ⟨_, h4, h5⟩ := dsT_ok h1
  obtain ⟨w, hw, _, hr, _, _⟩ := tOk_nat h1
  show Ta.mk t.w _ = Ta.mk t.w _
  exact congrArg _ (ascS_unique hr h4 h2 h5)
theorem ds_one {t : Ta} (h : tOk t) {x : List V} (hx : x ∈ t.rows) : cntE x (dsT t).rows = 1 := by
  obtain ⟨_, h2, h3⟩ := dsT_ok h
  have := h2.cnt x
  have := cntE_pos.2 ((h3 x).2 hx)
  omega
/-- Counts of a row's. -/
def sumC (rs : List (List V)) : List (List V) → Nat
  | [] => 0
  | x :: l => cntE x rs + sumC rs l
theorem sumC_nil : ∀ l, sumC [] l = 0
  | [] => rfl
  | x :: l => by rw [sumC, sumC_nil l]; rfl
theorem sumC_cons (a : List V) (rs : List (List V)) : ∀ l, sumC (a :: rs) l = sumC rs l + cntE a l
  | [] => rfl
  | x :: l => by
    rw [sumC, sumC, sumC_cons a rs l]
    by_cases h : x = a
    · subst h; rw [cntE_same, cntE_same]; omega
    · rw [cntE_ne (fun e => h e.symm), cntE_ne h]; omega
theorem sumC_all {l : List (List V)} (h : AscS l) : ∀ rs : List (List V), (∀ x, x ∈ rs → x ∈ l) → sumC rs l = rs.length
  | [], _ => sumC_nil l
  | a :: rs, hm => by
    have h1 := h.cnt a
    have h2 := cntE_pos.2 (hm a (List.mem_cons_self ..))
    rw [sumC_cons, sumC_all h rs (fun x hx => hm x (List.mem_cons_of_mem _ hx)), List.length_cons]
    omega
theorem sumC_app (rs : List (List V)) (x : List V) : ∀ l, sumC rs (l ++ [x]) = sumC rs l + cntE x rs
  | [] => by show sumC rs [x] = _; rw [sumC, sumC, sumC]; omega
  | y :: l => by rw [List.cons_append, sumC, sumC_app rs x l, sumC]; omega
theorem sumC_le (rs : List (List V)) : ∀ l, sumC rs l ≤ l.length * rs.length
  | [] => Nat.zero_le _
  | x :: l => by
    have h1 := cntE_len x rs
    have h2 := sumC_le rs l
    rw [sumC, List.length_cons, Nat.add_mul]
    omega
end Go.Proofs.Ytldkjccccjiihaa
