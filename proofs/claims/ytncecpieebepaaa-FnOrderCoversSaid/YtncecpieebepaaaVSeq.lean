/-
  The library's iterator over a slice of rows, and what collects one. No condition.
-/
import Derived.Test.YtncecpieebepaaaDca
import Derived.Test.YtncecpieebepaaaDcb
import Derived.Test.YtncecpieebepaaaDcc
import Derived.Test.YtncecpieebepaaaVTbD
import Derived.Test.YtncecpieebepaaaVSem
import Derived.Test.YtncecpieebepaaaVBox
set_option maxHeartbeats 4000000
set_option maxRecDepth 100000
set_option linter.unusedVariables false
set_option linter.unusedSimpArgs false
namespace Go.Proofs.Ytncecpieebepaaa
open Go.RowKit

/-- What an iterator over rows hands out. -/
def tupR (r : List V) : D := .tup [rowD r]
theorem tupR_at {rs : List (List V)} {i : Nat} {es : List D} (h : (rs.map tupR)[i]? = some (.tup es)) : ∃ r, rs[i]? = some r ∧ es = [rowD r] := by
  rw [List.getElem?_map] at h
  cases hr : rs[i]? with
  | none => rw [hr] at h; cases h
  | some r =>
    rw [hr] at h
    simp only [Option.map_some, Option.some.injEq, tupR, D.tup.injEq] at h
    exact ⟨r, rfl, h.symm⟩

/-- slices.Values hands out the elements. -/
theorem values_rows (rs : List (List V)) (hl : rs.length ≤ 100000) : Yields Try.prog 58 [.ptr [rowsD rs]] (rs.map tupR) := by
  refine yields c_slices_Values_____loop_example_queryoptimizer_impl_Value___loop_example_queryoptimizer_impl_Value__1 mixed (Nat.le_of_ble_eq_true rfl) (fun i e => ?_)
  conv => arg 3; whnf
  repeat' (first | with_reducible refine acc_none ?_ | (conv in hold _ => simp (disch := omega) only [go_sem]) | refine Stp.go ?_ | (with_reducible first | refine it_pos rfl ?_ | refine it_neg (by decide) ?_ | refine st_nil rfl ?_ | refine s_op ?_ ?_ | exact True.intro) | ((with_reducible first | refine dw_reg0 ?_ | refine dw_regB ?_); (conv => arg 3; whnf)) | (refine Spl.go (fun hq he => ?_) (fun hq he => ?_) <;> first | (exfalso; clear hq; omega) | ((try (first | (conv => arg 8; simp only [hq]) | (conv => arg 4; simp only [hq]))); clear hq)) | ((with_reducible first | refine c_split (fun hq => ?_) (fun hq => ?_) | refine q_split (fun hq => ?_) (fun hq => ?_)) <;> (try (first | (conv => arg 8; simp only [hq]) | (conv => arg 4; simp only [hq])))) | (with_reducible refine fin_0 ?_ (by first | rfl | (conv => lhs; simp only [go_sem])) ?_) | exact Sub.refl _ | omega)
  refine dw_for (c := 0) (l := fun j => [(0, .v (.func (.yield i) #[] #[])), (1, .ptr [rowsD rs]), (5, rowsD rs), (6, I rs.length), (7, I j), (gh, .gho i (rs.map tupR) e j)]) rs.length (fun j => j ≤ e) 0 (Nat.zero_le _) (Wk.list [] rfl rfl ?_) (fun j hj hJ => ?_) (Nat.zero_le _)
  · repeat' (first | (conv in hold _ => simp (disch := omega) only [go_sem]) | exact True.intro | exact Sub.refl _ | omega)
    exact rfl
  · rcases at_or_end hj with ⟨x, hx, hlt⟩ | rfl
    · repeat' (first | with_reducible refine acc_none ?_ | (conv in hold _ => simp (disch := omega) only [go_sem, List.getElem?_map, hx, Option.map_some]) | refine Stp.go ?_ | (with_reducible first | refine it_pos rfl ?_ | refine it_neg (by decide) ?_ | refine st_nil rfl ?_ | refine s_op ?_ ?_ | exact True.intro) | ((with_reducible first | refine dw_reg0 ?_ | refine dw_regB ?_); (conv => arg 3; whnf)) | (refine Spl.go (fun hq he => ?_) (fun hq he => ?_) <;> first | (exfalso; clear hq; omega) | ((try (first | (conv => arg 8; simp only [hq]) | (conv => arg 4; simp only [hq]))); clear hq)) | ((with_reducible first | refine c_split (fun hq => ?_) (fun hq => ?_) | refine q_split (fun hq => ?_) (fun hq => ?_)) <;> (try (first | (conv => arg 8; simp only [hq]) | (conv => arg 4; simp only [hq])))) | (with_reducible refine fin_0 ?_ (by first | rfl | (conv => lhs; simp only [go_sem, List.getElem?_map, hx, Option.map_some])) ?_) | exact Sub.refl _ | omega)
      refine v_yld (by ((conv => lhs; simp (disch := omega) only [go_sem]); try rfl)) (hJ) ((by rw [List.getElem?_map, hx]; rfl)) (by first | rfl | (simp only [go_sem])) ?_
      repeat' (first | with_reducible refine acc_none ?_ | (conv in hold _ => simp (disch := omega) only [go_sem]) | refine Stp.go ?_ | (with_reducible first | refine it_pos rfl ?_ | refine it_neg (by decide) ?_ | refine st_nil rfl ?_ | refine s_op ?_ ?_ | exact True.intro) | ((with_reducible first | refine dw_reg0 ?_ | refine dw_regB ?_); (conv => arg 3; whnf)) | (refine Spl.go (fun hq he => ?_) (fun hq he => ?_) <;> first | (exfalso; clear hq; omega) | ((try (first | (conv => arg 8; simp only [hq]) | (conv => arg 4; simp only [hq]))); clear hq)) | ((with_reducible first | refine c_split (fun hq => ?_) (fun hq => ?_) | refine q_split (fun hq => ?_) (fun hq => ?_)) <;> (try (first | (conv => arg 8; simp only [hq]) | (conv => arg 4; simp only [hq])))) | (with_reducible refine fin_0 ?_ (by first | rfl | (conv => lhs; simp only [go_sem])) ?_) | exact Sub.refl _ | omega)
      · refine ⟨(j + 1), ?_, ?_⟩
        · ((conv => lhs; simp (disch := omega) only [go_sem]); try rfl)
        simp only [List.length_map]
        omega
      · refine ⟨hlt, by omega, Wk.list [] rfl rfl ?_⟩
        repeat' (first | (conv in hold _ => simp (disch := omega) only [go_sem]) | exact True.intro | exact Sub.refl _ | omega)
    · repeat' (first | with_reducible refine acc_none ?_ | (conv in hold _ => simp (disch := omega) only [go_sem]) | refine Stp.go ?_ | (with_reducible first | refine it_pos rfl ?_ | refine it_neg (by decide) ?_ | refine st_nil rfl ?_ | refine s_op ?_ ?_ | exact True.intro) | ((with_reducible first | refine dw_reg0 ?_ | refine dw_regB ?_); (conv => arg 3; whnf)) | (refine Spl.go (fun hq he => ?_) (fun hq he => ?_) <;> first | (exfalso; clear hq; omega) | ((try (first | (conv => arg 8; simp only [hq]) | (conv => arg 4; simp only [hq]))); clear hq)) | ((with_reducible first | refine c_split (fun hq => ?_) (fun hq => ?_) | refine q_split (fun hq => ?_) (fun hq => ?_)) <;> (try (first | (conv => arg 8; simp only [hq]) | (conv => arg 4; simp only [hq])))) | (with_reducible refine fin_0 ?_ (by first | rfl | (conv => lhs; simp only [go_sem])) ?_) | exact Sub.refl _ | omega)
      refine ⟨rs.length, ?_, ?_⟩
      · ((conv => lhs; simp (disch := omega) only [go_sem]); try rfl)
      rw [List.length_map]
      omega

/-- slices.Values over rows that stand still. -/
theorem Values_rows (rs : List (List V)) : Does Try.prog 37 [] [rowsD rs] (.fn 58 [.ptr [rowsD rs]]) [] := by
  refine does0 c_slices_Values_____loop_example_queryoptimizer_impl_Value___loop_example_queryoptimizer_impl_Value_ mixed (Nat.le_of_ble_eq_true rfl) ?_
  conv => arg 3; whnf
  repeat' (first | with_reducible refine acc_none ?_ | (conv in hold _ => simp (disch := omega) only [go_sem]) | refine Stp.go ?_ | (with_reducible first | refine it_pos rfl ?_ | refine it_neg (by decide) ?_ | refine st_nil rfl ?_ | refine s_op ?_ ?_ | exact True.intro) | ((with_reducible first | refine dw_reg0 ?_ | refine dw_regB ?_); (conv => arg 3; whnf)) | (refine Spl.go (fun hq he => ?_) (fun hq he => ?_) <;> first | (exfalso; clear hq; omega) | ((try (first | (conv => arg 8; simp only [hq]) | (conv => arg 4; simp only [hq]))); clear hq)) | ((with_reducible first | refine c_split (fun hq => ?_) (fun hq => ?_) | refine q_split (fun hq => ?_) (fun hq => ?_)) <;> (try (first | (conv => arg 8; simp only [hq]) | (conv => arg 4; simp only [hq])))) | exact Sub.refl _ | omega)
  refine fin_wk (wk_fro 2 2000001 (by decide) (by decide) rfl ?_) ?_
  rotate_left
  (conv in hold _ => simp (disch := omega) only [go_sem])
  · refine fin_L [] ?_ ?_ rfl ?_
    repeat' (first | (conv in hold _ => simp (disch := omega) only [go_sem]) | exact True.intro | exact Sub.refl _ | omega)
  · rfl

/-- slices.AppendSeq, from nothing on. -/
theorem appendSeq_rows {f : FuncId} (hf : enters Try.prog f = true) {caps : List D} (hcp : D.purL caps = true) (rs : List (List V)) (hl : rs.length ≤ 100000) (hY : Yields Try.prog f caps (rs.map tupR)) :
    Does Try.prog 71 [] [.nul, .fn f caps] (.own 1000000 1 rs.length) [.row 1 (rs.map rowD)] := by
  have hren := fun L => ren_pure.renL_pure L caps hcp
  refine does c_slices_AppendSeq_____loop_example_queryoptimizer_impl_Value___loop_example_queryoptimizer_impl_Value_ mixed (Nat.le_of_ble_eq_true rfl) 0 rfl ?_
  conv => arg 3; whnf
  repeat' (first | with_reducible refine acc_none ?_ | (conv in hold _ => simp (disch := omega) only [go_sem]) | refine Stp.go ?_ | (with_reducible first | refine it_pos rfl ?_ | refine it_neg (by decide) ?_ | refine st_nil rfl ?_ | refine s_op ?_ ?_ | exact True.intro) | ((with_reducible first | refine dw_reg0 ?_ | refine dw_regB ?_); (conv => arg 3; whnf)) | (refine Spl.go (fun hq he => ?_) (fun hq he => ?_) <;> first | (exfalso; clear hq; omega) | ((try (first | (conv => arg 8; simp only [hq]) | (conv => arg 4; simp only [hq]))); clear hq)) | ((with_reducible first | refine c_split (fun hq => ?_) (fun hq => ?_) | refine q_split (fun hq => ?_) (fun hq => ?_)) <;> (try (first | (conv => arg 8; simp only [hq]) | (conv => arg 4; simp only [hq])))) | (with_reducible refine fin_0 ?_ (by first | rfl | (conv => lhs; simp only [go_sem])) ?_) | exact Sub.refl _ | omega)
  refine dw_rng f caps (rs.map tupR) 1 2 [(2, .ref 1000000 0), (6, .fn f caps)] (fun i => [(1000000, .obj [.own 1000001 1 i]), (1000001, .row 1 ((rs.take i).map rowD))]) hY hf hcp (Nat.zero_le _) (by decide) (by decide) ?_ (fun i => namesOK_of rfl) ((wk_rowO 2000002 3000000 1 0 (by decide) (by decide) (by decide) rfl rfl rfl).trans (Wk.list [2000002, 3000000] rfl rfl ?_)) rfl (fun i es h => by obtain ⟨_, _, rfl⟩ := tupR_at h; rfl) (fun i es h hp => ?_) ?_
  · simp (disch := omega) only [go_sem, hren, and_self, Nat.reduceLT]
  · repeat' (first | (conv in hold _ => simp (disch := omega) only [go_sem, hren]) | exact True.intro | exact Sub.refl _ | omega)
  · obtain ⟨r, hr, rfl⟩ := tupR_at h
    have hlt := (List.getElem?_eq_some_iff.1 hr).1
    have hmk : ((rs.take i).map rowD).take i = (rs.take i).map rowD := take_map rowD (by omega)
    have hnx := take_next hr
    have htl := take_len (vs := rs) (i := i) (by omega)
    repeat' (first | with_reducible refine acc_none ?_ | (conv in hold _ => simp (disch := omega) only [go_sem, List.length_map, htl]) | refine Stp.go ?_ | (with_reducible first | refine it_pos rfl ?_ | refine it_neg (by decide) ?_ | refine st_nil rfl ?_ | refine s_op ?_ ?_ | exact True.intro) | ((with_reducible first | refine dw_reg0 ?_ | refine dw_regB ?_); (conv => arg 3; whnf)) | (refine Spl.go (fun hq he => ?_) (fun hq he => ?_) <;> first | (exfalso; clear hq; omega) | ((try (first | (conv => arg 8; simp only [hq]) | (conv => arg 4; simp only [hq]))); clear hq)) | ((with_reducible first | refine c_split (fun hq => ?_) (fun hq => ?_) | refine q_split (fun hq => ?_) (fun hq => ?_)) <;> (try (first | (conv => arg 8; simp only [hq]) | (conv => arg 4; simp only [hq])))) | (with_reducible refine fin_0 ?_ (by first | rfl | (conv => lhs; simp only [go_sem, List.length_map, htl])) ?_) | exact Sub.refl _ | omega)
    refine Wk.list [1000000, 2000011] rfl rfl ?_
    repeat' (first | (conv in hold _ => simp (disch := omega) only [go_sem, List.length_map, htl]) | exact True.intro | exact Sub.refl _ | omega)
    rw [hmk, hnx, List.map_append]
    rfl
  · have e1 : rs.take rs.length = rs := List.take_length
    repeat' (first | with_reducible refine acc_none ?_ | (conv in hold _ => simp (disch := omega) only [go_sem, List.length_map, e1]) | refine Stp.go ?_ | (with_reducible first | refine it_pos rfl ?_ | refine it_neg (by decide) ?_ | refine st_nil rfl ?_ | refine s_op ?_ ?_ | exact True.intro) | ((with_reducible first | refine dw_reg0 ?_ | refine dw_regB ?_); (conv => arg 3; whnf)) | (refine Spl.go (fun hq he => ?_) (fun hq he => ?_) <;> first | (exfalso; clear hq; omega) | ((try (first | (conv => arg 8; simp only [hq]) | (conv => arg 4; simp only [hq]))); clear hq)) | ((with_reducible first | refine c_split (fun hq => ?_) (fun hq => ?_) | refine q_split (fun hq => ?_) (fun hq => ?_)) <;> (try (first | (conv => arg 8; simp only [hq]) | (conv => arg 4; simp only [hq])))) | (with_reducible refine fin_0 ?_ (by first | rfl | (conv => lhs; simp only [go_sem, List.length_map, e1])) ?_) | exact Sub.refl _ | omega)
    refine fin_L [1000001] ?_ ?_ rfl ?_
    repeat' (first | (conv in hold _ => simp (disch := omega) only [go_sem, List.length_map, e1]) | exact True.intro | exact Sub.refl _ | omega)

/-- slices.Collect. -/
theorem collect_rows {f : FuncId} (hf : enters Try.prog f = true) {caps : List D} (hcp : D.purL caps = true) (rs : List (List V)) (hl : rs.length ≤ 100000) (hY : Yields Try.prog f caps (rs.map tupR)) :
    Does Try.prog 56 [] [.fn f caps] (.own 1000000 1 rs.length) [.row 1 (rs.map rowD)] := by
  have hren := fun L => ren_pure.renL_pure L caps hcp
  have ha := appendSeq_rows hf hcp rs hl hY
  refine does c_slices_Collect___loop_example_queryoptimizer_impl_Value_ mixed (Nat.le_of_ble_eq_true rfl) 0 rfl ?_
  conv => arg 3; whnf
  repeat' (first | with_reducible refine acc_none ?_ | (conv in hold _ => simp (disch := omega) only [go_sem]) | refine Stp.go ?_ | (with_reducible first | refine it_pos rfl ?_ | refine it_neg (by decide) ?_ | refine st_nil rfl ?_ | refine s_op ?_ ?_ | exact True.intro) | ((with_reducible first | refine dw_reg0 ?_ | refine dw_regB ?_); (conv => arg 3; whnf)) | (refine Spl.go (fun hq he => ?_) (fun hq he => ?_) <;> first | (exfalso; clear hq; omega) | ((try (first | (conv => arg 8; simp only [hq]) | (conv => arg 4; simp only [hq]))); clear hq)) | ((with_reducible first | refine c_split (fun hq => ?_) (fun hq => ?_) | refine q_split (fun hq => ?_) (fun hq => ?_)) <;> (try (first | (conv => arg 8; simp only [hq]) | (conv => arg 4; simp only [hq])))) | (with_reducible refine fin_0 ?_ (by first | rfl | (conv => lhs; simp only [go_sem])) ?_) | exact Sub.refl _ | omega)
  refine c_doesR [3000001] (ha) (callOK_of rfl (Nat.le_of_ble_eq_true rfl) rfl ?_ ?_) ?_ ?_
  · repeat' (first | (conv in hold _ => simp (disch := omega) only [go_sem, hren]) | exact True.intro | exact Sub.refl _ | omega)
  · repeat' (first | (conv in hold _ => simp (disch := omega) only [go_sem, hren]) | exact True.intro | exact Sub.refl _ | omega)
  · ((conv => rhs; simp (disch := omega) only [go_sem, hren]); try rfl)
  repeat' (first | with_reducible refine acc_none ?_ | (conv in hold _ => simp (disch := omega) only [go_sem, hren]) | refine Stp.go ?_ | (with_reducible first | refine it_pos rfl ?_ | refine it_neg (by decide) ?_ | refine st_nil rfl ?_ | refine s_op ?_ ?_ | exact True.intro) | ((with_reducible first | refine dw_reg0 ?_ | refine dw_regB ?_); (conv => arg 3; whnf)) | (refine Spl.go (fun hq he => ?_) (fun hq he => ?_) <;> first | (exfalso; clear hq; omega) | ((try (first | (conv => arg 8; simp only [hq]) | (conv => arg 4; simp only [hq]))); clear hq)) | ((with_reducible first | refine c_split (fun hq => ?_) (fun hq => ?_) | refine q_split (fun hq => ?_) (fun hq => ?_)) <;> (try (first | (conv => arg 8; simp only [hq]) | (conv => arg 4; simp only [hq])))) | (with_reducible refine fin_0 ?_ (by first | rfl | (conv => lhs; simp only [go_sem, hren])) ?_) | exact Sub.refl _ | omega)
  refine fin_L [3000001] ?_ ?_ rfl ?_
  repeat' (first | (conv in hold _ => simp (disch := omega) only [go_sem]) | exact True.intro | exact Sub.refl _ | omega)
end Go.Proofs.Ytncecpieebepaaa
