/-
  ColumnsOf of the program; how many columns there are. No condition.
-/
import Derived.Test.YtclkehekhdfnnaaDca
import Derived.Test.YtclkehekhdfnnaaDcb
import Derived.Test.YtclkehekhdfnnaaVCols
set_option maxHeartbeats 4000000
set_option maxRecDepth 100000
namespace Go.Proofs.Ytclkehekhdfnnaa
open Go.RowKit

/-- The numbers below n that are marked. -/
def marked (u : Nat → Bool) (n : Nat) : List Nat := (List.range n).filter u
def colsL (u : Nat → Bool) (n : Nat) : List D := (marked u n).map fun j : Nat => I (j : Int)
theorem marked_t {u : Nat → Bool} {n : Nat} (h : u n = true) : marked u (n + 1) = marked u n ++ [n] := by
  unfold marked
  rw [List.range_succ, List.filter_append, List.filter_cons, if_pos h]
  rfl
theorem marked_f {u : Nat → Bool} {n : Nat} (h : u n = false) : marked u (n + 1) = marked u n := by
  unfold marked
  rw [List.range_succ, List.filter_append, List.filter_cons, if_neg (by rw [h]; decide)]
  simp
theorem colsL_t {u : Nat → Bool} {n : Nat} (h : u n = true) : colsL u (n + 1) = colsL u n ++ [I n] := by unfold colsL; rw [marked_t h, List.map_append]; rfl
theorem colsL_f {u : Nat → Bool} {n : Nat} (h : u n = false) : colsL u (n + 1) = colsL u n := by unfold colsL; rw [marked_f h]
theorem marked_len (u : Nat → Bool) (n : Nat) : (marked u n).length ≤ n := by
  unfold marked
  exact Nat.le_trans (List.length_filter_le _ _) (by rw [List.length_range]; exact Nat.le_refl _)
theorem colsL_len (u : Nat → Bool) (n : Nat) : (colsL u n).length ≤ n := by unfold colsL; rw [List.length_map]; exact marked_len u n
theorem nats_pur : ∀ l : List Nat, D.purL (l.map fun j : Nat => I (j : Int)) = true
  | [] => rfl
  | j :: l => by rw [List.map_cons, D.purL, nats_pur l]; rfl
theorem colsL_pur (u : Nat → Bool) (n : Nat) : D.purL (colsL u n) = true := nats_pur _
theorem colsL_ren (L : List Nat) (u : Nat → Bool) (n : Nat) : D.renL L (colsL u n) = colsL u n := ren_pure.renL_pure L _ (colsL_pur u n)
attribute [go_sem] colsL_ren colsL_pur
theorem ColumnsOf_impl (e : E) (h : eOk e 6 8) : Does Try.prog 11 [] [eD e] (.sl 1 (colsL (occ e) 6)) [] := by
  have hve := implValidExpr_ok e 6
  rw [decide_eq_true ⟨by decide, h⟩] at hve
  have huc := usedColumns_ok e 8 h
  refine does0 c_impl_ColumnsOf mixed (Nat.le_of_ble_eq_true rfl) ?_
  conv => arg 3; whnf
  repeat' (first | with_reducible refine acc_none ?_ | (conv in hold _ => simp (disch := omega) only [go_sem]) | refine Stp.go ?_ | (with_reducible first | refine it_pos rfl ?_ | refine it_neg (by decide) ?_ | refine st_nil rfl ?_ | refine s_op ?_ ?_ | exact True.intro) | ((with_reducible first | refine dw_reg0 ?_ | refine dw_regB ?_); (conv => arg 3; whnf)) | (refine Spl.go (fun hq he => ?_) (fun hq he => ?_) <;> first | (exfalso; clear hq; omega) | ((try (first | (conv => arg 8; simp only [hq]) | (conv => arg 4; simp only [hq]))); clear hq)) | ((with_reducible first | refine c_split (fun hq => ?_) (fun hq => ?_) | refine q_split (fun hq => ?_) (fun hq => ?_)) <;> (try (first | (conv => arg 8; simp only [hq]) | (conv => arg 4; simp only [hq])))) | (with_reducible refine fin_0 ?_ (by first | rfl | (conv => lhs; simp only [go_sem])) ?_) | exact Sub.refl _ | omega)
  refine c_doesE (hve) ?_ ?_ ?_
  · ((try (conv => rhs; simp (disch := omega) only [go_sem])); try rfl)
  · first | rfl | (conv => lhs; simp only [go_sem])
  repeat' (first | with_reducible refine acc_none ?_ | (conv in hold _ => simp (disch := omega) only [go_sem]) | refine Stp.go ?_ | (with_reducible first | refine it_pos rfl ?_ | refine it_neg (by decide) ?_ | refine st_nil rfl ?_ | refine s_op ?_ ?_ | exact True.intro) | ((with_reducible first | refine dw_reg0 ?_ | refine dw_regB ?_); (conv => arg 3; whnf)) | (refine Spl.go (fun hq he => ?_) (fun hq he => ?_) <;> first | (exfalso; clear hq; omega) | ((try (first | (conv => arg 8; simp only [hq]) | (conv => arg 4; simp only [hq]))); clear hq)) | ((with_reducible first | refine c_split (fun hq => ?_) (fun hq => ?_) | refine q_split (fun hq => ?_) (fun hq => ?_)) <;> (try (first | (conv => arg 8; simp only [hq]) | (conv => arg 4; simp only [hq])))) | (with_reducible refine fin_0 ?_ (by first | rfl | (conv => lhs; simp only [go_sem])) ?_) | exact Sub.refl _ | omega)
  refine c_doesE (huc) ?_ ?_ ?_
  · ((try (conv => rhs; simp (disch := omega) only [go_sem])); try rfl)
  · first | rfl | (conv => lhs; simp only [go_sem])
  repeat' (first | with_reducible refine acc_none ?_ | (conv in hold _ => simp (disch := omega) only [go_sem]) | refine Stp.go ?_ | (with_reducible first | refine it_pos rfl ?_ | refine it_neg (by decide) ?_ | refine st_nil rfl ?_ | refine s_op ?_ ?_ | exact True.intro) | ((with_reducible first | refine dw_reg0 ?_ | refine dw_regB ?_); (conv => arg 3; whnf)) | (refine Spl.go (fun hq he => ?_) (fun hq he => ?_) <;> first | (exfalso; clear hq; omega) | ((try (first | (conv => arg 8; simp only [hq]) | (conv => arg 4; simp only [hq]))); clear hq)) | ((with_reducible first | refine c_split (fun hq => ?_) (fun hq => ?_) | refine q_split (fun hq => ?_) (fun hq => ?_)) <;> (try (first | (conv => arg 8; simp only [hq]) | (conv => arg 4; simp only [hq])))) | (with_reducible refine fin_0 ?_ (by first | rfl | (conv => lhs; simp only [go_sem])) ?_) | exact Sub.refl _ | omega)
  refine dw_for (c := 1) (l := fun i => [(3, .own 1000000 1 (colsL (occ e) i).length), (10, .agg (useL (occ e))), (11, I i), (1000000, .row 1 (colsL (occ e) i))]) 6 (fun _ => True) 0 trivial ((wk_row 3 2000019 1 (by decide) (by decide) rfl rfl).trans (Wk.list [2000019] rfl rfl ?_)) (fun i hi _ => ?_) (Nat.zero_le _)
  · repeat' (first | (conv in hold _ => simp (disch := omega) only [go_sem]) | exact True.intro | exact Sub.refl _ | omega)
    exact ⟨rfl, rfl, rfl⟩
  · have hlen := colsL_len (occ e) i
    by_cases h6 : i < 6
    · repeat' (first | with_reducible refine acc_none ?_ | (conv in hold _ => simp (disch := omega) only [go_sem]) | refine Stp.go ?_ | (with_reducible first | refine it_pos rfl ?_ | refine it_neg (by decide) ?_ | refine st_nil rfl ?_ | refine s_op ?_ ?_ | exact True.intro) | ((with_reducible first | refine dw_reg0 ?_ | refine dw_regB ?_); (conv => arg 3; whnf)) | (refine Spl.go (fun hq he => ?_) (fun hq he => ?_) <;> first | (exfalso; clear hq; omega) | ((try (first | (conv => arg 8; simp only [hq]) | (conv => arg 4; simp only [hq]))); clear hq)) | ((with_reducible first | refine c_split (fun hq => ?_) (fun hq => ?_) | refine q_split (fun hq => ?_) (fun hq => ?_)) <;> (try (first | (conv => arg 8; simp only [hq]) | (conv => arg 4; simp only [hq])))) | (with_reducible refine fin_0 ?_ (by first | rfl | (conv => lhs; simp only [go_sem])) ?_) | exact Sub.refl _ | omega)
      · refine ⟨h6, trivial, Wk.list [2000019] rfl rfl ?_⟩
        repeat' (first | (conv in hold _ => simp (disch := omega) only [go_sem, List.take_length]) | exact True.intro | exact Sub.refl _ | omega)
        rw [colsL_t hq, List.length_append]
        exact ⟨rfl, rfl⟩
      · refine ⟨h6, trivial, Wk.list [1000000] rfl rfl ?_⟩
        repeat' (first | (conv in hold _ => simp (disch := omega) only [go_sem]) | exact True.intro | exact Sub.refl _ | omega)
        rw [colsL_f hq]
        exact ⟨rfl, rfl⟩
    · obtain rfl : i = 6 := by omega
      repeat' (first | with_reducible refine acc_none ?_ | (conv in hold _ => simp (disch := omega) only [go_sem]) | refine Stp.go ?_ | (with_reducible first | refine it_pos rfl ?_ | refine it_neg (by decide) ?_ | refine st_nil rfl ?_ | refine s_op ?_ ?_ | exact True.intro) | ((with_reducible first | refine dw_reg0 ?_ | refine dw_regB ?_); (conv => arg 3; whnf)) | (refine Spl.go (fun hq he => ?_) (fun hq he => ?_) <;> first | (exfalso; clear hq; omega) | ((try (first | (conv => arg 8; simp only [hq]) | (conv => arg 4; simp only [hq]))); clear hq)) | ((with_reducible first | refine c_split (fun hq => ?_) (fun hq => ?_) | refine q_split (fun hq => ?_) (fun hq => ?_)) <;> (try (first | (conv => arg 8; simp only [hq]) | (conv => arg 4; simp only [hq])))) | exact Sub.refl _ | omega)
      refine fin_wk (wk_frz 2 1000000 (by decide) (by decide) rfl ?_) ?_
      rotate_left
      (conv in hold _ => simp (disch := omega) only [go_sem, List.take_length])
      · refine fin_L [] ?_ ?_ rfl ?_
        repeat' (first | (conv in hold _ => simp (disch := omega) only [go_sem]) | exact True.intro | exact Sub.refl _ | omega)
      · exact colsL_pur _ _
/-- Not more columns than parts. -/
theorem count_or (p q : Nat → Bool) : ∀ l : List Nat, (l.filter fun i => p i || q i).length ≤ (l.filter p).length + (l.filter q).length
  | [] => Nat.le_refl _
  | x :: l => by
    have := count_or p q l
    rw [List.filter_cons, List.filter_cons, List.filter_cons]
    cases p x <;> cases q x <;> simp <;> omega
theorem count_one (c : Int) (n : Nat) : ((List.range n).filter fun i : Nat => c == (i : Int)).length ≤ 1 := by
  induction n with
  | zero => exact Nat.zero_le _
  | succ n ih =>
    rw [List.range_succ, List.filter_append, List.length_append]
    by_cases h : c = (n : Int)
    · have h0 : ((List.range n).filter fun i : Nat => c == (i : Int)) = [] := by
        rw [List.filter_eq_nil_iff]
        intro a ha
        have := List.mem_range.1 ha
        rw [beq_iff_eq]
        omega
      rw [h0, List.filter_cons]
      simp [h]
    · rw [List.filter_cons, if_neg (by rw [beq_iff_eq]; exact h)]
      simpa using ih
theorem occL_count (n : Nat) : ∀ l : List E, (∀ e, e ∈ l → (marked (occ e) n).length ≤ esz e) → (marked (occL l) n).length ≤ eszL l
  | [], _ => by
    have : marked (occL []) n = [] := by
      unfold marked
      rw [List.filter_eq_nil_iff]
      intro a _
      simp [occL]
    rw [this]
    exact Nat.zero_le _
  | e :: l, h => by
    have h1 := h e (List.mem_cons_self ..)
    have h2 := occL_count n l (fun x hx => h x (List.mem_cons_of_mem _ hx))
    have h3 := count_or (occ e) (occL l) (List.range n)
    unfold marked at *
    rw [eszL]
    have e1 : occL (e :: l) = fun i => occ e i || occL l i := funext fun i => by rw [occL]
    rw [e1]
    omega
theorem occ_count (n : Nat) : ∀ e : E, (marked (occ e) n).length ≤ esz e := by
  refine E.ind (fun e ih => ?_)
  have h1 := occL_count n e.ks ih
  have h2 := count_or (fun i : Nat => e.k == 1 && e.c == (i : Int)) (occL e.ks) (List.range n)
  have h3 := count_one e.c n
  have h4 : ((List.range n).filter fun i : Nat => e.k == 1 && e.c == (i : Int)).length ≤ 1 := by
    by_cases hk : e.k = 1
    · have : (fun i : Nat => e.k == 1 && e.c == (i : Int)) = fun i : Nat => e.c == (i : Int) := funext fun i => by simp [hk]
      rw [this]
      exact h3
    · have : ((List.range n).filter fun i : Nat => e.k == 1 && e.c == (i : Int)) = [] := by
        rw [List.filter_eq_nil_iff]
        intro a _
        simp [hk]
      rw [this]
      exact Nat.zero_le _
  unfold marked at *
  have e1 : occ e = fun i : Nat => (e.k == 1 && e.c == (i : Int)) || occL e.ks i := funext fun i => occ_eq e i
  rw [esz_eq, e1]
  omega
theorem colsL_size (e : E) : (colsL (occ e) 6).length ≤ esz e := by unfold colsL; rw [List.length_map]; exact occ_count 6 e
end Go.Proofs.Ytclkehekhdfnnaa
