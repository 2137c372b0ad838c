/-
  Which columns an expression reads. No condition.
-/
import Derived.Test.YtnakdmodegfibaaDca
import Derived.Test.YtnakdmodegfibaaDcc
import Derived.Test.YtnakdmodegfibaaVWLaws
import Derived.Test.YtnakdmodegfibaaVColsC
set_option maxHeartbeats 4000000
set_option maxRecDepth 100000
namespace Go.Proofs.Ytnakdmodegfibaa
open Go.RowKit

theorem occL_mem {x : E} {l : List E} {i : Nat} (h : x ∈ l) (ho : occ x i = true) : occL l i = true := by
  induction l with
  | nil => cases h
  | cons y l ih =>
    rw [occL, Bool.or_eq_true]
    rcases List.mem_cons.1 h with rfl | h
    · exact Or.inl ho
    · exact Or.inr (ih h)
theorem occ_kid {x e : E} {i : Nat} (h : x ∈ e.ks) (ho : occ x i = true) : occ e i = true := by
  rw [occ_eq, occL_mem h ho, Bool.or_true]
/-- The value depends on no column that does not occur. -/
theorem ev_same {w : Int} {r1 r2 : List V} (hw : (r1.length : Int) = w) : ∀ (e : E) (d : Nat), eOk e w d → (∀ i : Nat, occ e i = true → r1[i]? = r2[i]?) → ev e r1 = ev e r2 := by
  refine E.ind (fun e ih d h ho => ?_)
  rcases eOk_kids h with ⟨h1, _⟩ | ⟨h1, a, hk, ha⟩ | ⟨h1, a, b, hk, ha, hb⟩
  · rcases h1 with h1 | h1
    · have hl := ((eOk_iff e _ d).1 h).2.2.2
      unfold leafOk at hl
      rw [if_pos h1] at hl
      obtain ⟨v, hv⟩ : ∃ v, r1[e.c.toNat]? = some v := ⟨_, List.getElem?_eq_getElem (by omega)⟩
      have hoc : occ e e.c.toNat = true := by
        have e1 : (e.c == ((e.c.toNat : Nat) : Int)) = true := by rw [beq_iff_eq]; omega
        rw [occ_eq, h1, e1]
        rfl
      rw [ev_col h1 hv, ev_col h1 ((ho _ hoc) ▸ hv)]
    · rw [ev_const h1, ev_const h1]
  · have ham : a ∈ e.ks := by rw [hk]; exact List.mem_cons_self ..
    have := ih a ham (d - 1) ha (fun i hi => ho i (occ_kid ham hi))
    rcases h1 with h1 | h1
    · rw [ev_not h1 hk, ev_not h1 hk, this]
    · rw [ev_null h1 hk, ev_null h1 hk, this]
  · have ham : a ∈ e.ks := by rw [hk]; exact List.mem_cons_self ..
    have hbm : b ∈ e.ks := by rw [hk]; exact List.mem_cons_of_mem _ (List.mem_cons_self ..)
    have hA := ih a ham (d - 1) ha (fun i hi => ho i (occ_kid ham hi))
    have hB := ih b hbm (d - 1) hb (fun i hi => ho i (occ_kid hbm hi))
    rw [ev_two (by omega) (by omega) (by omega) (by omega) hk, ev_two (by omega) (by omega) (by omega) (by omega) hk, hA, hB]
theorem intL_at {l : List Nat} {k a : Nat} (h : l[k]? = some a) : (intL l)[k]? = some (I a) := by
  unfold intL
  rw [List.getElem?_map, h]
  rfl
theorem isIn_ok (l : List Nat) (c : Nat) (hl : l.length < 1000) : Does Try.prog 13 [] [.sl 1 (intL l), I c] (Bo (decide (c ∈ l))) [] := by
  refine does0 c_laws_isIn mixed (Nat.le_of_ble_eq_true rfl) ?_
  conv => arg 3; whnf
  repeat' (first | with_reducible refine acc_none ?_ | (conv in hold _ => simp (disch := omega) only [go_sem]) | refine Stp.go ?_ | (with_reducible first | refine it_pos rfl ?_ | refine it_neg (by decide) ?_ | refine st_nil rfl ?_ | refine s_op ?_ ?_ | exact True.intro) | ((with_reducible first | refine dw_reg0 ?_ | refine dw_regB ?_); (conv => arg 3; whnf)) | (refine Spl.go (fun hq he => ?_) (fun hq he => ?_) <;> first | (exfalso; clear hq; omega) | ((try (first | (conv => arg 8; simp only [hq]) | (conv => arg 4; simp only [hq]))); clear hq)) | ((with_reducible first | refine c_split (fun hq => ?_) (fun hq => ?_) | refine q_split (fun hq => ?_) (fun hq => ?_)) <;> (try (first | (conv => arg 8; simp only [hq]) | (conv => arg 4; simp only [hq])))) | (with_reducible refine fin_0 ?_ (by first | rfl | (conv => lhs; simp only [go_sem])) ?_) | exact Sub.refl _ | omega)
  refine dw_for (c := 0) (l := fun i => [(0, .sl 1 (intL l)), (1, I c), (5, I i)]) l.length (fun i => ∀ (j a : Nat), j < i → l[j]? = some a → ¬ a = c) 0 (by omega) (Wk.list [] rfl rfl ?_) (fun i hi hJ => ?_) (Nat.zero_le _)
  · repeat' (first | (conv in hold _ => simp (disch := omega) only [go_sem]) | exact True.intro | exact Sub.refl _ | omega)
    exact rfl
  · rcases at_or_end hi with ⟨x, hx, hlt⟩ | rfl
    · have hget := intL_at hx
      by_cases e : x = c
      · repeat' (first | with_reducible refine acc_none ?_ | (conv in hold _ => simp (disch := omega) only [go_sem, hget]) | refine Stp.go ?_ | (with_reducible first | refine it_pos rfl ?_ | refine it_neg (by decide) ?_ | refine st_nil rfl ?_ | refine s_op ?_ ?_ | exact True.intro) | ((with_reducible first | refine dw_reg0 ?_ | refine dw_regB ?_); (conv => arg 3; whnf)) | (refine Spl.go (fun hq he => ?_) (fun hq he => ?_) <;> first | (exfalso; clear hq; omega) | ((try (first | (conv => arg 8; simp only [hq]) | (conv => arg 4; simp only [hq]))); clear hq)) | ((with_reducible first | refine c_split (fun hq => ?_) (fun hq => ?_) | refine q_split (fun hq => ?_) (fun hq => ?_)) <;> (try (first | (conv => arg 8; simp only [hq]) | (conv => arg 4; simp only [hq])))) | (with_reducible refine fin_0 ?_ (by first | rfl | (conv => lhs; simp only [go_sem, hget])) ?_) | exact Sub.refl _ | omega)
        exact sub_t (by rw [← e]; exact List.mem_of_getElem? hx)
      · repeat' (first | with_reducible refine acc_none ?_ | (conv in hold _ => simp (disch := omega) only [go_sem, hget]) | refine Stp.go ?_ | (with_reducible first | refine it_pos rfl ?_ | refine it_neg (by decide) ?_ | refine st_nil rfl ?_ | refine s_op ?_ ?_ | exact True.intro) | ((with_reducible first | refine dw_reg0 ?_ | refine dw_regB ?_); (conv => arg 3; whnf)) | (refine Spl.go (fun hq he => ?_) (fun hq he => ?_) <;> first | (exfalso; clear hq; omega) | ((try (first | (conv => arg 8; simp only [hq]) | (conv => arg 4; simp only [hq]))); clear hq)) | ((with_reducible first | refine c_split (fun hq => ?_) (fun hq => ?_) | refine q_split (fun hq => ?_) (fun hq => ?_)) <;> (try (first | (conv => arg 8; simp only [hq]) | (conv => arg 4; simp only [hq])))) | (with_reducible refine fin_0 ?_ (by first | rfl | (conv => lhs; simp only [go_sem, hget])) ?_) | exact Sub.refl _ | omega)
        refine ⟨hlt, upto_next (p := fun a => ¬ a = c) hx hJ e, Wk.list [] rfl rfl ?_⟩
        repeat' (first | (conv in hold _ => simp (disch := omega) only [go_sem]) | exact True.intro | exact Sub.refl _ | omega)
    · repeat' (first | with_reducible refine acc_none ?_ | (conv in hold _ => simp (disch := omega) only [go_sem]) | refine Stp.go ?_ | (with_reducible first | refine it_pos rfl ?_ | refine it_neg (by decide) ?_ | refine st_nil rfl ?_ | refine s_op ?_ ?_ | exact True.intro) | ((with_reducible first | refine dw_reg0 ?_ | refine dw_regB ?_); (conv => arg 3; whnf)) | (refine Spl.go (fun hq he => ?_) (fun hq he => ?_) <;> first | (exfalso; clear hq; omega) | ((try (first | (conv => arg 8; simp only [hq]) | (conv => arg 4; simp only [hq]))); clear hq)) | ((with_reducible first | refine c_split (fun hq => ?_) (fun hq => ?_) | refine q_split (fun hq => ?_) (fun hq => ?_)) <;> (try (first | (conv => arg 8; simp only [hq]) | (conv => arg 4; simp only [hq])))) | (with_reducible refine fin_0 ?_ (by first | rfl | (conv => lhs; simp only [go_sem])) ?_) | exact Sub.refl _ | omega)
      exact sub_f (fun h => upto_all (p := fun a => ¬ a = c) hJ c h rfl)
theorem equalInts_ok (l : List Nat) (hl : l.length < 1000) : Does Try.prog 14 [] [.sl 1 (intL l), .sl 1 (intL l)] (Bo true) [] := by
  refine does0 c_laws_equalInts mixed (Nat.le_of_ble_eq_true rfl) ?_
  conv => arg 3; whnf
  repeat' (first | with_reducible refine acc_none ?_ | (conv in hold _ => simp (disch := omega) only [go_sem]) | refine Stp.go ?_ | (with_reducible first | refine it_pos rfl ?_ | refine it_neg (by decide) ?_ | refine st_nil rfl ?_ | refine s_op ?_ ?_ | exact True.intro) | ((with_reducible first | refine dw_reg0 ?_ | refine dw_regB ?_); (conv => arg 3; whnf)) | (refine Spl.go (fun hq he => ?_) (fun hq he => ?_) <;> first | (exfalso; clear hq; omega) | ((try (first | (conv => arg 8; simp only [hq]) | (conv => arg 4; simp only [hq]))); clear hq)) | ((with_reducible first | refine c_split (fun hq => ?_) (fun hq => ?_) | refine q_split (fun hq => ?_) (fun hq => ?_)) <;> (try (first | (conv => arg 8; simp only [hq]) | (conv => arg 4; simp only [hq])))) | (with_reducible refine fin_0 ?_ (by first | rfl | (conv => lhs; simp only [go_sem])) ?_) | exact Sub.refl _ | omega)
  refine dw_for (c := 0) (l := fun i => [(0, .sl 1 (intL l)), (1, .sl 1 (intL l)), (5, I i)]) l.length (fun _ => True) 0 trivial (Wk.list [] rfl rfl ?_) (fun i hi _ => ?_) (Nat.zero_le _)
  · repeat' (first | (conv in hold _ => simp (disch := omega) only [go_sem]) | exact True.intro | exact Sub.refl _ | omega)
    exact rfl
  · rcases at_or_end hi with ⟨x, hx, hlt⟩ | rfl
    · have hget := intL_at hx
      repeat' (first | with_reducible refine acc_none ?_ | (conv in hold _ => simp (disch := omega) only [go_sem, hget]) | refine Stp.go ?_ | (with_reducible first | refine it_pos rfl ?_ | refine it_neg (by decide) ?_ | refine st_nil rfl ?_ | refine s_op ?_ ?_ | exact True.intro) | ((with_reducible first | refine dw_reg0 ?_ | refine dw_regB ?_); (conv => arg 3; whnf)) | (refine Spl.go (fun hq he => ?_) (fun hq he => ?_) <;> first | (exfalso; clear hq; omega) | ((try (first | (conv => arg 8; simp only [hq]) | (conv => arg 4; simp only [hq]))); clear hq)) | ((with_reducible first | refine c_split (fun hq => ?_) (fun hq => ?_) | refine q_split (fun hq => ?_) (fun hq => ?_)) <;> (try (first | (conv => arg 8; simp only [hq]) | (conv => arg 4; simp only [hq])))) | (with_reducible refine fin_0 ?_ (by first | rfl | (conv => lhs; simp only [go_sem, hget])) ?_) | exact Sub.refl _ | omega)
      refine ⟨hlt, trivial, Wk.list [] rfl rfl ?_⟩
      repeat' (first | (conv in hold _ => simp (disch := omega) only [go_sem]) | exact True.intro | exact Sub.refl _ | omega)
    · repeat' (first | with_reducible refine acc_none ?_ | (conv in hold _ => simp (disch := omega) only [go_sem]) | refine Stp.go ?_ | (with_reducible first | refine it_pos rfl ?_ | refine it_neg (by decide) ?_ | refine st_nil rfl ?_ | refine s_op ?_ ?_ | exact True.intro) | ((with_reducible first | refine dw_reg0 ?_ | refine dw_regB ?_); (conv => arg 3; whnf)) | (refine Spl.go (fun hq he => ?_) (fun hq he => ?_) <;> first | (exfalso; clear hq; omega) | ((try (first | (conv => arg 8; simp only [hq]) | (conv => arg 4; simp only [hq]))); clear hq)) | ((with_reducible first | refine c_split (fun hq => ?_) (fun hq => ?_) | refine q_split (fun hq => ?_) (fun hq => ?_)) <;> (try (first | (conv => arg 8; simp only [hq]) | (conv => arg 4; simp only [hq])))) | (with_reducible refine fin_0 ?_ (by first | rfl | (conv => lhs; simp only [go_sem])) ?_) | exact Sub.refl _ | omega)
/-- Whether a column occurs, as the law asks it. -/
theorem isIn_cols (u : Nat → Bool) (c : Nat) (hc : c < 6) : Does Try.prog 13 [] [.sl 1 (colsL u 6), I c] (Bo (u c)) [] := by
  have := isIn_ok (marked u 6) c (by have := marked_len u 6; omega)
  rw [show decide (c ∈ marked u 6) = u c from by
    rw [Bool.eq_iff_iff, decide_eq_true_iff]
    unfold marked
    rw [List.mem_filter, List.mem_range]
    exact ⟨fun h => h.2, fun h => ⟨hc, h⟩⟩] at this
  exact this
end Go.Proofs.Ytnakdmodegfibaa
