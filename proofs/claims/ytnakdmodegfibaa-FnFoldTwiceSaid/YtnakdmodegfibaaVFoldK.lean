/-
  Drawn expressions to fold; an expression without columns. No condition.
-/
import Derived.Test.YtnakdmodegfibaaDca
import Derived.Test.YtnakdmodegfibaaDcd
import Derived.Test.YtnakdmodegfibaaVFoldJ
import Derived.Test.YtnakdmodegfibaaVColsB
set_option maxHeartbeats 4000000
set_option maxRecDepth 100000
namespace Go.Proofs.Ytnakdmodegfibaa
open Go.RowKit

theorem DrawFoldExpr_ok (cs : List Nat) (hc : ∀ b, b ∈ cs → b < 256) : ∃ e : E, Does Try.prog 20 [] [bytesD cs] (eD e) [] := by
  have hs : Src (cs.take 2000) := ⟨fun b hb => hc b (List.mem_of_mem_take hb), by rw [List.length_take]; omega⟩
  have hr := newReader_ok cs
  obtain ⟨e, q, he, hq0, hq1⟩ := anyExpr_ok hs 3 (by decide) 0 (by decide)
  obtain ⟨k, hk, k0, k1, _⟩ := pick_ok hs q (by omega) 2 (by omega)
  by_cases h : k = 0
  · obtain ⟨x, hx, _⟩ := one_ok hs (q + 1) (by omega) [8, 9, 3] (by decide) (by decide)
    obtain ⟨v, q', ⟨hv, _⟩, _, _⟩ := randomValue_ok hs (q + 2) (by omega)
    refine ⟨.mk x 0 ⟨false, 0⟩ [.mk 2 0 v [], e], ?_⟩
    refine does0 c_spec_DrawFoldExpr mixed (Nat.le_of_ble_eq_true rfl) ?_
    conv => arg 3; whnf
    repeat' (first | with_reducible refine acc_none ?_ | (conv in hold _ => simp (disch := omega) only [go_sem]) | refine Stp.go ?_ | (with_reducible first | refine it_pos rfl ?_ | refine it_neg (by decide) ?_ | refine st_nil rfl ?_ | refine s_op ?_ ?_ | exact True.intro) | ((with_reducible first | refine dw_reg0 ?_ | refine dw_regB ?_); (conv => arg 3; whnf)) | (refine Spl.go (fun hq he => ?_) (fun hq he => ?_) <;> first | (exfalso; clear hq; omega) | ((try (first | (conv => arg 8; simp only [hq]) | (conv => arg 4; simp only [hq]))); clear hq)) | ((with_reducible first | refine c_split (fun hq => ?_) (fun hq => ?_) | refine q_split (fun hq => ?_) (fun hq => ?_)) <;> (try (first | (conv => arg 8; simp only [hq]) | (conv => arg 4; simp only [hq])))) | (with_reducible refine fin_0 ?_ (by first | rfl | (conv => lhs; simp only [go_sem])) ?_) | exact Sub.refl _ | omega)
    refine c_doesR [3000001] (hr) (callOK_of rfl (Nat.le_of_ble_eq_true rfl) rfl ?_ ?_) ?_ ?_
    · repeat' (first | (conv in hold _ => simp (disch := omega) only [go_sem]) | exact True.intro | exact Sub.refl _ | omega)
    · repeat' (first | (conv in hold _ => simp (disch := omega) only [go_sem]) | exact True.intro | exact Sub.refl _ | omega)
    · ((conv => rhs; simp (disch := omega) only [go_sem]); try rfl)
    repeat' (first | with_reducible refine acc_none ?_ | (conv in hold _ => simp (disch := omega) only [go_sem]) | refine Stp.go ?_ | (with_reducible first | refine it_pos rfl ?_ | refine it_neg (by decide) ?_ | refine st_nil rfl ?_ | refine s_op ?_ ?_ | exact True.intro) | ((with_reducible first | refine dw_reg0 ?_ | refine dw_regB ?_); (conv => arg 3; whnf)) | (refine Spl.go (fun hq he => ?_) (fun hq he => ?_) <;> first | (exfalso; clear hq; omega) | ((try (first | (conv => arg 8; simp only [hq]) | (conv => arg 4; simp only [hq]))); clear hq)) | ((with_reducible first | refine c_split (fun hq => ?_) (fun hq => ?_) | refine q_split (fun hq => ?_) (fun hq => ?_)) <;> (try (first | (conv => arg 8; simp only [hq]) | (conv => arg 4; simp only [hq])))) | (with_reducible refine fin_0 ?_ (by first | rfl | (conv => lhs; simp only [go_sem])) ?_) | exact Sub.refl _ | omega)
    refine c_doesR [3000001] (he) (callOK_of rfl (Nat.le_of_ble_eq_true rfl) rfl ?_ ?_) ?_ ?_
    · repeat' (first | (conv in hold _ => simp (disch := omega) only [go_sem]) | exact True.intro | exact Sub.refl _ | omega)
    · repeat' (first | (conv in hold _ => simp (disch := omega) only [go_sem]) | exact True.intro | exact Sub.refl _ | omega)
    · ((conv => rhs; simp (disch := omega) only [go_sem]); try rfl)
    repeat' (first | with_reducible refine acc_none ?_ | (conv in hold _ => simp (disch := omega) only [go_sem]) | refine Stp.go ?_ | (with_reducible first | refine it_pos rfl ?_ | refine it_neg (by decide) ?_ | refine st_nil rfl ?_ | refine s_op ?_ ?_ | exact True.intro) | ((with_reducible first | refine dw_reg0 ?_ | refine dw_regB ?_); (conv => arg 3; whnf)) | (refine Spl.go (fun hq he => ?_) (fun hq he => ?_) <;> first | (exfalso; clear hq; omega) | ((try (first | (conv => arg 8; simp only [hq]) | (conv => arg 4; simp only [hq]))); clear hq)) | ((with_reducible first | refine c_split (fun hq => ?_) (fun hq => ?_) | refine q_split (fun hq => ?_) (fun hq => ?_)) <;> (try (first | (conv => arg 8; simp only [hq]) | (conv => arg 4; simp only [hq])))) | (with_reducible refine fin_0 ?_ (by first | rfl | (conv => lhs; simp only [go_sem])) ?_) | exact Sub.refl _ | omega)
    refine c_doesR [3000001] (hk) (callOK_of rfl (Nat.le_of_ble_eq_true rfl) rfl ?_ ?_) ?_ ?_
    · repeat' (first | (conv in hold _ => simp (disch := omega) only [go_sem]) | exact True.intro | exact Sub.refl _ | omega)
    · repeat' (first | (conv in hold _ => simp (disch := omega) only [go_sem]) | exact True.intro | exact Sub.refl _ | omega)
    · ((conv => rhs; simp (disch := omega) only [go_sem]); try rfl)
    repeat' (first | with_reducible refine acc_none ?_ | (conv in hold _ => simp (disch := omega) only [go_sem]) | refine Stp.go ?_ | (with_reducible first | refine it_pos rfl ?_ | refine it_neg (by decide) ?_ | refine st_nil rfl ?_ | refine s_op ?_ ?_ | exact True.intro) | ((with_reducible first | refine dw_reg0 ?_ | refine dw_regB ?_); (conv => arg 3; whnf)) | (refine Spl.go (fun hq he => ?_) (fun hq he => ?_) <;> first | (exfalso; clear hq; omega) | ((try (first | (conv => arg 8; simp only [hq]) | (conv => arg 4; simp only [hq]))); clear hq)) | ((with_reducible first | refine c_split (fun hq => ?_) (fun hq => ?_) | refine q_split (fun hq => ?_) (fun hq => ?_)) <;> (try (first | (conv => arg 8; simp only [hq]) | (conv => arg 4; simp only [hq])))) | (with_reducible refine fin_0 ?_ (by first | rfl | (conv => lhs; simp only [go_sem])) ?_) | exact Sub.refl _ | omega)
    refine c_doesR [3000001] (hx) (callOK_of rfl (Nat.le_of_ble_eq_true rfl) rfl ?_ ?_) ?_ ?_
    · repeat' (first | (conv in hold _ => simp (disch := omega) only [go_sem]) | exact True.intro | exact Sub.refl _ | omega)
    · repeat' (first | (conv in hold _ => simp (disch := omega) only [go_sem]) | exact True.intro | exact Sub.refl _ | omega)
    · ((conv => rhs; simp (disch := omega) only [go_sem]); try rfl)
    repeat' (first | with_reducible refine acc_none ?_ | (conv in hold _ => simp (disch := omega) only [go_sem]) | refine Stp.go ?_ | (with_reducible first | refine it_pos rfl ?_ | refine it_neg (by decide) ?_ | refine st_nil rfl ?_ | refine s_op ?_ ?_ | exact True.intro) | ((with_reducible first | refine dw_reg0 ?_ | refine dw_regB ?_); (conv => arg 3; whnf)) | (refine Spl.go (fun hq he => ?_) (fun hq he => ?_) <;> first | (exfalso; clear hq; omega) | ((try (first | (conv => arg 8; simp only [hq]) | (conv => arg 4; simp only [hq]))); clear hq)) | ((with_reducible first | refine c_split (fun hq => ?_) (fun hq => ?_) | refine q_split (fun hq => ?_) (fun hq => ?_)) <;> (try (first | (conv => arg 8; simp only [hq]) | (conv => arg 4; simp only [hq])))) | (with_reducible refine fin_0 ?_ (by first | rfl | (conv => lhs; simp only [go_sem])) ?_) | exact Sub.refl _ | omega)
    refine c_doesR [3000001] (hv) (callOK_of rfl (Nat.le_of_ble_eq_true rfl) rfl ?_ ?_) ?_ ?_
    · repeat' (first | (conv in hold _ => simp (disch := omega) only [go_sem]) | exact True.intro | exact Sub.refl _ | omega)
    · repeat' (first | (conv in hold _ => simp (disch := omega) only [go_sem]) | exact True.intro | exact Sub.refl _ | omega)
    · ((conv => rhs; simp (disch := omega) only [go_sem]); try rfl)
    repeat' (first | with_reducible refine acc_none ?_ | (conv in hold _ => simp (disch := omega) only [go_sem]) | refine Stp.go ?_ | (with_reducible first | refine it_pos rfl ?_ | refine it_neg (by decide) ?_ | refine st_nil rfl ?_ | refine s_op ?_ ?_ | exact True.intro) | ((with_reducible first | refine dw_reg0 ?_ | refine dw_regB ?_); (conv => arg 3; whnf)) | (refine Spl.go (fun hq he => ?_) (fun hq he => ?_) <;> first | (exfalso; clear hq; omega) | ((try (first | (conv => arg 8; simp only [hq]) | (conv => arg 4; simp only [hq]))); clear hq)) | ((with_reducible first | refine c_split (fun hq => ?_) (fun hq => ?_) | refine q_split (fun hq => ?_) (fun hq => ?_)) <;> (try (first | (conv => arg 8; simp only [hq]) | (conv => arg 4; simp only [hq])))) | (with_reducible refine fin_0 ?_ (by first | rfl | (conv => lhs; simp only [go_sem])) ?_) | exact Sub.refl _ | omega)
    refine c_doesE (constant_ok v) ?_ ?_ ?_
    · ((try (conv => rhs; simp (disch := omega) only [go_sem])); try rfl)
    · first | rfl | (conv => lhs; simp only [go_sem])
    repeat' (first | with_reducible refine acc_none ?_ | (conv in hold _ => simp (disch := omega) only [go_sem]) | refine Stp.go ?_ | (with_reducible first | refine it_pos rfl ?_ | refine it_neg (by decide) ?_ | refine st_nil rfl ?_ | refine s_op ?_ ?_ | exact True.intro) | ((with_reducible first | refine dw_reg0 ?_ | refine dw_regB ?_); (conv => arg 3; whnf)) | (refine Spl.go (fun hq he => ?_) (fun hq he => ?_) <;> first | (exfalso; clear hq; omega) | ((try (first | (conv => arg 8; simp only [hq]) | (conv => arg 4; simp only [hq]))); clear hq)) | ((with_reducible first | refine c_split (fun hq => ?_) (fun hq => ?_) | refine q_split (fun hq => ?_) (fun hq => ?_)) <;> (try (first | (conv => arg 8; simp only [hq]) | (conv => arg 4; simp only [hq])))) | (with_reducible refine fin_0 ?_ (by first | rfl | (conv => lhs; simp only [go_sem])) ?_) | exact Sub.refl _ | omega)
  · refine ⟨e, ?_⟩
    refine does0 c_spec_DrawFoldExpr mixed (Nat.le_of_ble_eq_true rfl) ?_
    conv => arg 3; whnf
    repeat' (first | with_reducible refine acc_none ?_ | (conv in hold _ => simp (disch := omega) only [go_sem]) | refine Stp.go ?_ | (with_reducible first | refine it_pos rfl ?_ | refine it_neg (by decide) ?_ | refine st_nil rfl ?_ | refine s_op ?_ ?_ | exact True.intro) | ((with_reducible first | refine dw_reg0 ?_ | refine dw_regB ?_); (conv => arg 3; whnf)) | (refine Spl.go (fun hq he => ?_) (fun hq he => ?_) <;> first | (exfalso; clear hq; omega) | ((try (first | (conv => arg 8; simp only [hq]) | (conv => arg 4; simp only [hq]))); clear hq)) | ((with_reducible first | refine c_split (fun hq => ?_) (fun hq => ?_) | refine q_split (fun hq => ?_) (fun hq => ?_)) <;> (try (first | (conv => arg 8; simp only [hq]) | (conv => arg 4; simp only [hq])))) | (with_reducible refine fin_0 ?_ (by first | rfl | (conv => lhs; simp only [go_sem])) ?_) | exact Sub.refl _ | omega)
    refine c_doesR [3000001] (hr) (callOK_of rfl (Nat.le_of_ble_eq_true rfl) rfl ?_ ?_) ?_ ?_
    · repeat' (first | (conv in hold _ => simp (disch := omega) only [go_sem]) | exact True.intro | exact Sub.refl _ | omega)
    · repeat' (first | (conv in hold _ => simp (disch := omega) only [go_sem]) | exact True.intro | exact Sub.refl _ | omega)
    · ((conv => rhs; simp (disch := omega) only [go_sem]); try rfl)
    repeat' (first | with_reducible refine acc_none ?_ | (conv in hold _ => simp (disch := omega) only [go_sem]) | refine Stp.go ?_ | (with_reducible first | refine it_pos rfl ?_ | refine it_neg (by decide) ?_ | refine st_nil rfl ?_ | refine s_op ?_ ?_ | exact True.intro) | ((with_reducible first | refine dw_reg0 ?_ | refine dw_regB ?_); (conv => arg 3; whnf)) | (refine Spl.go (fun hq he => ?_) (fun hq he => ?_) <;> first | (exfalso; clear hq; omega) | ((try (first | (conv => arg 8; simp only [hq]) | (conv => arg 4; simp only [hq]))); clear hq)) | ((with_reducible first | refine c_split (fun hq => ?_) (fun hq => ?_) | refine q_split (fun hq => ?_) (fun hq => ?_)) <;> (try (first | (conv => arg 8; simp only [hq]) | (conv => arg 4; simp only [hq])))) | (with_reducible refine fin_0 ?_ (by first | rfl | (conv => lhs; simp only [go_sem])) ?_) | exact Sub.refl _ | omega)
    refine c_doesR [3000001] (he) (callOK_of rfl (Nat.le_of_ble_eq_true rfl) rfl ?_ ?_) ?_ ?_
    · repeat' (first | (conv in hold _ => simp (disch := omega) only [go_sem]) | exact True.intro | exact Sub.refl _ | omega)
    · repeat' (first | (conv in hold _ => simp (disch := omega) only [go_sem]) | exact True.intro | exact Sub.refl _ | omega)
    · ((conv => rhs; simp (disch := omega) only [go_sem]); try rfl)
    repeat' (first | with_reducible refine acc_none ?_ | (conv in hold _ => simp (disch := omega) only [go_sem]) | refine Stp.go ?_ | (with_reducible first | refine it_pos rfl ?_ | refine it_neg (by decide) ?_ | refine st_nil rfl ?_ | refine s_op ?_ ?_ | exact True.intro) | ((with_reducible first | refine dw_reg0 ?_ | refine dw_regB ?_); (conv => arg 3; whnf)) | (refine Spl.go (fun hq he => ?_) (fun hq he => ?_) <;> first | (exfalso; clear hq; omega) | ((try (first | (conv => arg 8; simp only [hq]) | (conv => arg 4; simp only [hq]))); clear hq)) | ((with_reducible first | refine c_split (fun hq => ?_) (fun hq => ?_) | refine q_split (fun hq => ?_) (fun hq => ?_)) <;> (try (first | (conv => arg 8; simp only [hq]) | (conv => arg 4; simp only [hq])))) | (with_reducible refine fin_0 ?_ (by first | rfl | (conv => lhs; simp only [go_sem])) ?_) | exact Sub.refl _ | omega)
    refine c_doesR [3000001] (hk) (callOK_of rfl (Nat.le_of_ble_eq_true rfl) rfl ?_ ?_) ?_ ?_
    · repeat' (first | (conv in hold _ => simp (disch := omega) only [go_sem]) | exact True.intro | exact Sub.refl _ | omega)
    · repeat' (first | (conv in hold _ => simp (disch := omega) only [go_sem]) | exact True.intro | exact Sub.refl _ | omega)
    · ((conv => rhs; simp (disch := omega) only [go_sem]); try rfl)
    repeat' (first | with_reducible refine acc_none ?_ | (conv in hold _ => simp (disch := omega) only [go_sem]) | refine Stp.go ?_ | (with_reducible first | refine it_pos rfl ?_ | refine it_neg (by decide) ?_ | refine st_nil rfl ?_ | refine s_op ?_ ?_ | exact True.intro) | ((with_reducible first | refine dw_reg0 ?_ | refine dw_regB ?_); (conv => arg 3; whnf)) | (refine Spl.go (fun hq he => ?_) (fun hq he => ?_) <;> first | (exfalso; clear hq; omega) | ((try (first | (conv => arg 8; simp only [hq]) | (conv => arg 4; simp only [hq]))); clear hq)) | ((with_reducible first | refine c_split (fun hq => ?_) (fun hq => ?_) | refine q_split (fun hq => ?_) (fun hq => ?_)) <;> (try (first | (conv => arg 8; simp only [hq]) | (conv => arg 4; simp only [hq])))) | (with_reducible refine fin_0 ?_ (by first | rfl | (conv => lhs; simp only [go_sem])) ?_) | exact Sub.refl _ | omega)
theorem occL_none {i : Nat} : ∀ {l : List E}, occL l i = false → ∀ {x : E}, x ∈ l → occ x i = false
  | [], _, x, hx => by cases hx
  | y :: l, h, x, hx => by
    rw [occL, Bool.or_eq_false_iff] at h
    rcases List.mem_cons.1 hx with rfl | hx
    · exact h.1
    · exact occL_none h.2 hx
theorem foldE_closed : ∀ (e : E) (d : Nat), eOk e 6 d → (∀ i, i < 6 → occ e i = false) → isC (foldE e) = true := by
  refine E.ind (fun e ih d h hno => ?_)
  have h1 := (eOk_iff e 6 d).1 h
  by_cases hk1 : e.k = 1
  · have h3 := h1.2.2.2
    unfold leafOk at h3
    rw [if_pos hk1] at h3
    have hc := hno e.c.toNat (by omega)
    rw [occ_eq, hk1, show ((e.c.toNat : Nat) : Int) = e.c by omega, beq_self_eq_true, beq_self_eq_true] at hc
    simp at hc
  · rw [foldE_eq]
    by_cases hks : e.ks = []
    · have hk2 : e.k = 2 := by
        have := h1.1
        rw [hks] at this
        change (0 : Int) = kidsN e.k at this
        unfold kidsN at this
        (repeat' split at this) <;> omega
      rw [hks]
      unfold foldTop
      rw [if_pos (by rfl)]
      exact beq_iff_eq.2 hk2
    · have hall : (foldL e.ks).all isC = true := by
        rw [foldL_map, List.all_map]
        refine List.all_eq_true.2 (fun x hx => ?_)
        refine ih x hx (d - 1) (h1.2.2.1 x hx) (fun i hi => ?_)
        have h2 := hno i hi
        rw [occ_eq, Bool.or_eq_false_iff] at h2
        exact occL_none h2.2 hx
      have hemp : ¬ (foldL e.ks).isEmpty = true := by
        rw [foldL_map]
        intro h'
        exact hks (by simpa using h')
      unfold foldTop
      rw [if_neg (by exact hemp), if_pos (by exact hall)]
      rfl
end Go.Proofs.Ytnakdmodegfibaa
