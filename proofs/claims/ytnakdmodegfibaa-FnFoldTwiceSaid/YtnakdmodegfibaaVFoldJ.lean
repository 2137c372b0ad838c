/-
  The model's fold. No condition.
-/
import Derived.Test.YtnakdmodegfibaaDca
import Derived.Test.YtnakdmodegfibaaDcd
import Derived.Test.YtnakdmodegfibaaVFold2
set_option maxHeartbeats 4000000
set_option maxRecDepth 100000
namespace Go.Proofs.Ytnakdmodegfibaa
open Go.RowKit

theorem foldE_8 {e : E} {l : List E} (hl : l.isEmpty = false) (ha : l.all isC = false) (hk : e.k = 8) (y : E) (hy : y ∈ l) (h : (isC y && tr y.v == 0) = true) : foldTop (.mk e.k 0 ⟨false, 0⟩ l) = .mk 2 0 ⟨false, 0⟩ [] := by
  have hz : (l.any fun x => isC x && itr x.v == 0) = true := List.any_eq_true.2 ⟨y, hy, by rw [itr_tr0]; exact h⟩
  unfold foldTop
  rw [if_neg (by show ¬ l.isEmpty = true; rw [hl]; decide), if_neg (by show ¬ l.all isC = true; rw [ha]; decide)]
  exact if_pos ⟨hk, hz⟩
theorem foldE_9 {e : E} {l : List E} (hl : l.isEmpty = false) (ha : l.all isC = false) (hk : e.k = 9) (y : E) (hy : y ∈ l) (h : (isC y && tr y.v == 1) = true) : foldTop (.mk e.k 0 ⟨false, 0⟩ l) = .mk 2 0 ⟨false, 1⟩ [] := by
  have hz : (l.any fun x => isC x && itr x.v == 2) = true := List.any_eq_true.2 ⟨y, hy, by rw [itr_tr2]; exact h⟩
  unfold foldTop
  rw [if_neg (by show ¬ l.isEmpty = true; rw [hl]; decide), if_neg (by show ¬ l.all isC = true; rw [ha]; decide), if_neg (fun h' => by have h8 : e.k = 8 := h'.1; omega)]
  exact if_pos ⟨hk, hz⟩
theorem foldE_n {e : E} {l : List E} (hl : l.isEmpty = false) (ha : l.all isC = false) (h : ∀ y, y ∈ l → ¬ (e.k = 8 ∧ (isC y && tr y.v == 0) = true) ∧ ¬ (e.k = 9 ∧ (isC y && tr y.v == 1) = true)) : foldTop (.mk e.k 0 ⟨false, 0⟩ l) = .mk e.k 0 ⟨false, 0⟩ l := by
  unfold foldTop
  rw [if_neg (by show ¬ l.isEmpty = true; rw [hl]; decide), if_neg (by show ¬ l.all isC = true; rw [ha]; decide), if_neg ?_, if_neg ?_]
  · rintro ⟨h9, hz⟩
    obtain ⟨y, hy, hz⟩ := List.any_eq_true.1 hz
    rw [itr_tr2] at hz
    exact (h y hy).2 ⟨h9, hz⟩
  · rintro ⟨h8, hz⟩
    obtain ⟨y, hy, hz⟩ := List.any_eq_true.1 hz
    rw [itr_tr0] at hz
    exact (h y hy).1 ⟨h8, hz⟩
theorem fold_ok : ∀ (e : E) (d : Nat), eOk e 6 d → d ≤ 16 → Does Try.prog 51 [] [eD e] (eD (foldE e)) [] := by
  refine E.ind (fun e ih d h hd => ?_)
  have h1 := (eOk_iff e 6 d).1 h
  have hn2 := kidsN_le e.k
  have hlen : e.ks.length ≤ 2 := by omega
  by_cases hk : e.ks = []
  · have hcp := copyExpr_ok e (by have := esz_small e d h (by omega); have : 2 ^ (d + 1) ≤ 2 ^ 17 := Nat.pow_le_pow_right (by decide) (by omega); omega)
    have hf : foldE e = e := by
      rw [foldE_eq, hk]
      show foldTop (.mk e.k e.c e.v []) = e
      have : E.mk e.k e.c e.v [] = e := by rw [← hk]; cases e; rfl
      rw [this]
      unfold foldTop
      exact if_pos (by rw [hk]; rfl)
    have h0 : e.ks.length = 0 := by rw [hk]; rfl
    rw [hf]
    refine does0 c_spec_fold mixed (Nat.le_of_ble_eq_true rfl) ?_
    conv => arg 3; whnf
    repeat' (first | with_reducible refine acc_none ?_ | (conv in hold _ => simp (disch := omega) only [go_sem]) | refine Stp.go ?_ | (with_reducible first | refine it_pos rfl ?_ | refine it_neg (by decide) ?_ | refine st_nil rfl ?_ | refine s_op ?_ ?_ | exact True.intro) | ((with_reducible first | refine dw_reg0 ?_ | refine dw_regB ?_); (conv => arg 3; whnf)) | (refine Spl.go (fun hq he => ?_) (fun hq he => ?_) <;> first | (exfalso; clear hq; omega) | ((try (first | (conv => arg 8; simp only [hq]) | (conv => arg 4; simp only [hq]))); clear hq)) | ((with_reducible first | refine c_split (fun hq => ?_) (fun hq => ?_) | refine q_split (fun hq => ?_) (fun hq => ?_)) <;> (try (first | (conv => arg 8; simp only [hq]) | (conv => arg 4; simp only [hq])))) | (with_reducible refine fin_0 ?_ (by first | rfl | (conv => lhs; simp only [go_sem])) ?_) | exact Sub.refl _ | omega)
    refine c_doesE (hcp) ?_ ?_ ?_
    · ((try (conv => rhs; simp (disch := omega) only [go_sem])); try rfl)
    · first | rfl | (conv => lhs; simp only [go_sem])
    repeat' (first | with_reducible refine acc_none ?_ | (conv in hold _ => simp (disch := omega) only [go_sem]) | refine Stp.go ?_ | (with_reducible first | refine it_pos rfl ?_ | refine it_neg (by decide) ?_ | refine st_nil rfl ?_ | refine s_op ?_ ?_ | exact True.intro) | ((with_reducible first | refine dw_reg0 ?_ | refine dw_regB ?_); (conv => arg 3; whnf)) | (refine Spl.go (fun hq he => ?_) (fun hq he => ?_) <;> first | (exfalso; clear hq; omega) | ((try (first | (conv => arg 8; simp only [hq]) | (conv => arg 4; simp only [hq]))); clear hq)) | ((with_reducible first | refine c_split (fun hq => ?_) (fun hq => ?_) | refine q_split (fun hq => ?_) (fun hq => ?_)) <;> (try (first | (conv => arg 8; simp only [hq]) | (conv => arg 4; simp only [hq])))) | (with_reducible refine fin_0 ?_ (by first | rfl | (conv => lhs; simp only [go_sem])) ?_) | exact Sub.refl _ | omega)
  · have h0 : 0 < e.ks.length := List.length_pos_iff.2 hk
    have hfl := foldL_map e.ks
    have hll : (foldL e.ks).length = e.ks.length := by rw [hfl, List.length_map]
    have hk1 : ¬ e.k = 1 := fun h' => by have := h1.1; rw [kidsN_leaf (Or.inl h')] at this; omega
    have hk2 : ¬ e.k = 2 := fun h' => by have := h1.1; rw [kidsN_leaf (Or.inr h')] at this; omega
    have hcv : e.c = 0 ∧ e.v.b = false ∧ e.v.n = 0 := by
      have h3 := h1.2.2.2
      unfold leafOk at h3
      rw [if_neg hk1, if_neg hk2] at h3
      exact h3
    have hme : E.mk e.k e.c e.v (foldL e.ks) = .mk e.k 0 ⟨false, 0⟩ (foldL e.ks) := by
      have hv : e.v = ⟨false, 0⟩ := by
        have h3 := hcv.2
        revert h3
        cases e.v with
        | mk b n => rintro ⟨rfl, rfl⟩; rfl
      rw [hcv.1, hv]
    have hko := foldKids_ok h (fun x hx => foldE_ok x (d - 1) (h1.2.2.1 x hx))
    rw [hme] at hko
    have hfe : foldE e = foldTop (.mk e.k 0 ⟨false, 0⟩ (foldL e.ks)) := by rw [foldE_eq, hme]
    have hemp : (foldL e.ks).isEmpty = false := by
      rw [List.isEmpty_eq_false_iff]
      intro h'
      have h2 := hll
      rw [h'] at h2
      change 0 = e.ks.length at h2
      omega
    have hk0 := constant_ok ⟨false, 0⟩
    have hk1' := constant_ok ⟨false, 1⟩
    refine does0 c_spec_fold mixed (Nat.le_of_ble_eq_true rfl) ?_
    conv => arg 3; whnf
    repeat' (first | with_reducible refine acc_none ?_ | (conv in hold _ => simp (disch := omega) only [go_sem]) | refine Stp.go ?_ | (with_reducible first | refine it_pos rfl ?_ | refine it_neg (by decide) ?_ | refine st_nil rfl ?_ | refine s_op ?_ ?_ | exact True.intro) | ((with_reducible first | refine dw_reg0 ?_ | refine dw_regB ?_); (conv => arg 3; whnf)) | (refine Spl.go (fun hq he => ?_) (fun hq he => ?_) <;> first | (exfalso; clear hq; omega) | ((try (first | (conv => arg 8; simp only [hq]) | (conv => arg 4; simp only [hq]))); clear hq)) | ((with_reducible first | refine c_split (fun hq => ?_) (fun hq => ?_) | refine q_split (fun hq => ?_) (fun hq => ?_)) <;> (try (first | (conv => arg 8; simp only [hq]) | (conv => arg 4; simp only [hq])))) | (with_reducible refine fin_0 ?_ (by first | rfl | (conv => lhs; simp only [go_sem])) ?_) | exact Sub.refl _ | omega)
    refine dw_for (c := 4) (l := fun i => [(1, .ref 1000000 0), (2, .ref 1000001 0), (3, .ref 1000002 0), (4, Bo (((foldL e.ks).take i).all isC)), (5, I i), (1000000, .obj [I e.k, I e.c, Bo e.v.b, I e.v.n, .sl 5 (e.ks.map eD)]), (1000001, .obj [I 0, I 0, Bo false, I 0, .nul]), (1000002, .obj [I e.k, I 0, Bo false, I 0, .own 1000003 5 i]), (1000003, .row 5 (((foldL e.ks).take i).map eD))]) e.ks.length (fun _ => True) 0 trivial ((wk_rowO 2000003 2000040 5 4 (by decide) (by decide) (by decide) rfl rfl rfl).trans (Wk.list [2000001, 2000002, 2000003, 2000040] rfl rfl ?_)) (fun i hi _ => ?_) (Nat.zero_le _)
    · repeat' (first | (conv in hold _ => simp (disch := omega) only [go_sem]) | exact True.intro | exact Sub.refl _ | omega)
      exact ⟨rfl, rfl⟩
    · have hlt := take_len (vs := foldL e.ks) (i := i) (by omega)
      have hmt := take_map eD (vs := foldL e.ks) (i := i) (by omega)
      rcases at_or_end hi with ⟨x, hx, hlt1⟩ | rfl
      · have hix := ih x (List.mem_of_getElem? hx) (d - 1) (h1.2.2.1 x (List.mem_of_getElem? hx)) (by omega)
        have hfx : (foldL e.ks)[i]? = some (foldE x) := by rw [hfl, List.getElem?_map, hx]; rfl
        have hnx := take_next hfx
        repeat' (first | with_reducible refine acc_none ?_ | (conv in hold _ => simp (disch := omega) only [go_sem, List.getElem?_map, hx, Option.map_some]) | refine Stp.go ?_ | (with_reducible first | refine it_pos rfl ?_ | refine it_neg (by decide) ?_ | refine st_nil rfl ?_ | refine s_op ?_ ?_ | exact True.intro) | ((with_reducible first | refine dw_reg0 ?_ | refine dw_regB ?_); (conv => arg 3; whnf)) | (refine Spl.go (fun hq he => ?_) (fun hq he => ?_) <;> first | (exfalso; clear hq; omega) | ((try (first | (conv => arg 8; simp only [hq]) | (conv => arg 4; simp only [hq]))); clear hq)) | ((with_reducible first | refine c_split (fun hq => ?_) (fun hq => ?_) | refine q_split (fun hq => ?_) (fun hq => ?_)) <;> (try (first | (conv => arg 8; simp only [hq]) | (conv => arg 4; simp only [hq])))) | (with_reducible refine fin_0 ?_ (by first | rfl | (conv => lhs; simp only [go_sem, List.getElem?_map, hx, Option.map_some])) ?_) | exact Sub.refl _ | omega)
        refine c_doesE (hix) ?_ ?_ ?_
        · ((try (conv => rhs; simp (disch := omega) only [go_sem])); try rfl)
        · first | rfl | (conv => lhs; simp only [go_sem])
        repeat' (first | with_reducible refine acc_none ?_ | (conv in hold _ => simp (disch := omega) only [go_sem]) | refine Stp.go ?_ | (with_reducible first | refine it_pos rfl ?_ | refine it_neg (by decide) ?_ | refine st_nil rfl ?_ | refine s_op ?_ ?_ | exact True.intro) | ((with_reducible first | refine dw_reg0 ?_ | refine dw_regB ?_); (conv => arg 3; whnf)) | (refine Spl.go (fun hq he => ?_) (fun hq he => ?_) <;> first | (exfalso; clear hq; omega) | ((try (first | (conv => arg 8; simp only [hq]) | (conv => arg 4; simp only [hq]))); clear hq)) | ((with_reducible first | refine c_split (fun hq => ?_) (fun hq => ?_) | refine q_split (fun hq => ?_) (fun hq => ?_)) <;> (try (first | (conv => arg 8; simp only [hq]) | (conv => arg 4; simp only [hq])))) | (with_reducible refine fin_0 ?_ (by first | rfl | (conv => lhs; simp only [go_sem])) ?_) | exact Sub.refl _ | omega)
        all_goals refine ⟨hlt1, trivial, Wk.list [1000000, 1000001, 1000002, 2000040] rfl rfl ?_⟩
        · repeat' (first | (conv in hold _ => simp (disch := omega) only [go_sem]) | exact True.intro | exact Sub.refl _ | omega)
          refine ⟨?_, ?_⟩
          · rw [hnx, List.all_append, hq, List.all_cons, List.all_nil, Bool.true_and, Bool.and_true]; rfl
          · rw [hmt, hnx, List.map_append, List.map_cons, List.map_nil, eD_eq (foldE x)]
        · repeat' (first | (conv in hold _ => simp (disch := omega) only [go_sem]) | exact True.intro | exact Sub.refl _ | omega)
          refine ⟨?_, ?_⟩
          · have hq' : ((foldL e.ks).take i).all isC = false := hq
            rw [hnx, List.all_append, hq', Bool.false_and]
          · rw [hmt, hnx, List.map_append, List.map_cons, List.map_nil, eD_eq (foldE x)]
      · have e1 : (foldL e.ks).take e.ks.length = foldL e.ks := List.take_of_length_le (by omega)
        have e2 : ((foldL e.ks).map eD).take e.ks.length = (foldL e.ks).map eD := List.take_of_length_le (by rw [List.length_map]; omega)
        by_cases hall : (foldL e.ks).all isC = true
        · have hz := eOk_zero hko hk1 (fun x hx => List.all_eq_true.1 hall x hx)
          have hev := evalExpr_ok (row := []) (fun v hv => by cases hv) _ d hz
          have hev' : Does Try.prog 39 [] [eD (.mk e.k 0 ⟨false, 0⟩ (foldL e.ks)), .nul] (vD (ev (.mk e.k 0 ⟨false, 0⟩ (foldL e.ks)) [])) [] := hev.weak ⟨Sub.refl _, Sub.nul 2, trivial⟩ (Sub.refl _)
          have hk3 := constant_ok (ev (.mk e.k 0 ⟨false, 0⟩ (foldL e.ks)) [])
          have hf : foldE e = .mk 2 0 (ev (.mk e.k 0 ⟨false, 0⟩ (foldL e.ks)) []) [] := by
            rw [hfe]
            unfold foldTop
            rw [if_neg (by show ¬ (foldL e.ks).isEmpty = true; rw [hemp]; decide)]
            exact if_pos hall
          rw [hf]
          repeat' ((fail_if_success (with_reducible first | refine s_call ?_ | refine s_cal ?_ | refine s_inv ?_)); first | with_reducible refine acc_none ?_ | (conv in hold _ => simp (disch := omega) only [go_sem, e1, hall]) | refine Stp.go ?_ | (with_reducible first | refine it_pos rfl ?_ | refine it_neg (by decide) ?_ | refine st_nil rfl ?_ | refine s_op ?_ ?_ | exact True.intro) | ((with_reducible first | refine dw_reg0 ?_ | refine dw_regB ?_); (conv => arg 3; whnf)) | (refine Spl.go (fun hq he => ?_) (fun hq he => ?_) <;> first | (exfalso; clear hq; omega) | ((try (first | (conv => arg 8; simp only [hq]) | (conv => arg 4; simp only [hq]))); clear hq)) | ((with_reducible first | refine c_split (fun hq => ?_) (fun hq => ?_) | refine q_split (fun hq => ?_) (fun hq => ?_)) <;> (try (first | (conv => arg 8; simp only [hq]) | (conv => arg 4; simp only [hq])))) | (with_reducible refine fin_0 ?_ (by first | rfl | (conv => lhs; simp only [go_sem, e1, hall])) ?_) | exact Sub.refl _ | omega)
          refine s_pre (pre_frz (t := 43) (g := 1000003) (by decide) (by decide) rfl ?_) ?_
          rotate_left
          repeat' (first | with_reducible refine acc_none ?_ | (conv in hold _ => simp (disch := omega) only [go_sem, e1, e2, hll, Nat.le_refl]) | refine Stp.go ?_ | (with_reducible first | refine it_pos rfl ?_ | refine it_neg (by decide) ?_ | refine st_nil rfl ?_ | refine s_op ?_ ?_ | exact True.intro) | ((with_reducible first | refine dw_reg0 ?_ | refine dw_regB ?_); (conv => arg 3; whnf)) | (refine Spl.go (fun hq he => ?_) (fun hq he => ?_) <;> first | (exfalso; clear hq; omega) | ((try (first | (conv => arg 8; simp only [hq]) | (conv => arg 4; simp only [hq]))); clear hq)) | ((with_reducible first | refine c_split (fun hq => ?_) (fun hq => ?_) | refine q_split (fun hq => ?_) (fun hq => ?_)) <;> (try (first | (conv => arg 8; simp only [hq]) | (conv => arg 4; simp only [hq])))) | (with_reducible refine fin_0 ?_ (by first | rfl | (conv => lhs; simp only [go_sem, e1, e2, hll, Nat.le_refl])) ?_) | exact Sub.refl _ | omega)
          · refine c_doesE (hev') ?_ ?_ ?_
            · ((try (conv => rhs; simp (disch := omega) only [go_sem])); try rfl)
            · first | rfl | (conv => lhs; simp only [go_sem])
            repeat' (first | with_reducible refine acc_none ?_ | (conv in hold _ => simp (disch := omega) only [go_sem]) | refine Stp.go ?_ | (with_reducible first | refine it_pos rfl ?_ | refine it_neg (by decide) ?_ | refine st_nil rfl ?_ | refine s_op ?_ ?_ | exact True.intro) | ((with_reducible first | refine dw_reg0 ?_ | refine dw_regB ?_); (conv => arg 3; whnf)) | (refine Spl.go (fun hq he => ?_) (fun hq he => ?_) <;> first | (exfalso; clear hq; omega) | ((try (first | (conv => arg 8; simp only [hq]) | (conv => arg 4; simp only [hq]))); clear hq)) | ((with_reducible first | refine c_split (fun hq => ?_) (fun hq => ?_) | refine q_split (fun hq => ?_) (fun hq => ?_)) <;> (try (first | (conv => arg 8; simp only [hq]) | (conv => arg 4; simp only [hq])))) | (with_reducible refine fin_0 ?_ (by first | rfl | (conv => lhs; simp only [go_sem])) ?_) | exact Sub.refl _ | omega)
            refine c_doesE (hk3) ?_ ?_ ?_
            · ((try (conv => rhs; simp (disch := omega) only [go_sem])); try rfl)
            · first | rfl | (conv => lhs; simp only [go_sem])
            repeat' (first | with_reducible refine acc_none ?_ | (conv in hold _ => simp (disch := omega) only [go_sem]) | refine Stp.go ?_ | (with_reducible first | refine it_pos rfl ?_ | refine it_neg (by decide) ?_ | refine st_nil rfl ?_ | refine s_op ?_ ?_ | exact True.intro) | ((with_reducible first | refine dw_reg0 ?_ | refine dw_regB ?_); (conv => arg 3; whnf)) | (refine Spl.go (fun hq he => ?_) (fun hq he => ?_) <;> first | (exfalso; clear hq; omega) | ((try (first | (conv => arg 8; simp only [hq]) | (conv => arg 4; simp only [hq]))); clear hq)) | ((with_reducible first | refine c_split (fun hq => ?_) (fun hq => ?_) | refine q_split (fun hq => ?_) (fun hq => ?_)) <;> (try (first | (conv => arg 8; simp only [hq]) | (conv => arg 4; simp only [hq])))) | (with_reducible refine fin_0 ?_ (by first | rfl | (conv => lhs; simp only [go_sem])) ?_) | exact Sub.refl _ | omega)
          · exact exprs_pur _
        · rw [Bool.not_eq_true] at hall
          repeat' ((fail_if_success (with_reducible first | refine s_call ?_ | refine s_cal ?_ | refine s_inv ?_)); first | with_reducible refine acc_none ?_ | (conv in hold _ => simp (disch := omega) only [go_sem, e1, hall]) | refine Stp.go ?_ | (with_reducible first | refine it_pos rfl ?_ | refine it_neg (by decide) ?_ | refine st_nil rfl ?_ | refine s_op ?_ ?_ | exact True.intro) | ((with_reducible first | refine dw_reg0 ?_ | refine dw_regB ?_); (conv => arg 3; whnf)) | (refine Spl.go (fun hq he => ?_) (fun hq he => ?_) <;> first | (exfalso; clear hq; omega) | ((try (first | (conv => arg 8; simp only [hq]) | (conv => arg 4; simp only [hq]))); clear hq)) | ((with_reducible first | refine c_split (fun hq => ?_) (fun hq => ?_) | refine q_split (fun hq => ?_) (fun hq => ?_)) <;> (try (first | (conv => arg 8; simp only [hq]) | (conv => arg 4; simp only [hq])))) | (with_reducible refine fin_0 ?_ (by first | rfl | (conv => lhs; simp only [go_sem, e1, hall])) ?_) | exact Sub.refl _ | omega)
          refine dw_for (c := 3) (l := fun i => [(2, .ref 1000000 0), (3, .ref 1000001 0), (7, I i), (1000000, .obj [I 0, I 0, Bo false, I 0, .nul]), (1000001, .obj [I e.k, I 0, Bo false, I 0, .own 1000002 5 e.ks.length]), (1000002, .row 5 ((foldL e.ks).map eD))]) e.ks.length (fun i => ∀ j y, j < i → (foldL e.ks)[j]? = some y → ¬ (e.k = 8 ∧ (isC y && tr y.v == 0) = true) ∧ ¬ (e.k = 9 ∧ (isC y && tr y.v == 1) = true)) 0 (fun j y hj => by omega) (Wk.list [1000001, 1000002, 1000003] rfl rfl ?_) (fun i hi hJ => ?_) (Nat.zero_le _)
          · repeat' (first | (conv in hold _ => simp (disch := omega) only [go_sem]) | exact True.intro | exact Sub.refl _ | omega)
            rfl
          · by_cases hil : i < e.ks.length
            · obtain ⟨y, hy⟩ : ∃ y, (foldL e.ks)[i]? = some y := ⟨(foldL e.ks)[i]'(by omega), List.getElem?_eq_getElem (by omega)⟩
              have hm0 := List.mem_of_getElem? hy
              have his0 := isConstant_ok y 0
              have his1 := isConstant_ok y 1
              have hJ' : (¬ (e.k = 8 ∧ (isC y && tr y.v == 0) = true) ∧ ¬ (e.k = 9 ∧ (isC y && tr y.v == 1) = true)) → ∀ j y, j < i + 1 → (foldL e.ks)[j]? = some y → ¬ (e.k = 8 ∧ (isC y && tr y.v == 0) = true) ∧ ¬ (e.k = 9 ∧ (isC y && tr y.v == 1) = true) := by
                intro hy0 j y' hj hy'
                by_cases hji : j = i
                · subst hji
                  obtain rfl : y = y' := by rw [hy] at hy'; exact Option.some.inj hy'
                  exact hy0
                · exact hJ j y' (by omega) hy'
              repeat' (first | with_reducible refine acc_none ?_ | (conv in hold _ => simp (disch := omega) only [go_sem, List.getElem?_map, hy, Option.map_some]) | refine Stp.go ?_ | (with_reducible first | refine it_pos rfl ?_ | refine it_neg (by decide) ?_ | refine st_nil rfl ?_ | refine s_op ?_ ?_ | exact True.intro) | ((with_reducible first | refine dw_reg0 ?_ | refine dw_regB ?_); (conv => arg 3; whnf)) | (refine Spl.go (fun hq he => ?_) (fun hq he => ?_) <;> first | (exfalso; clear hq; omega) | ((try (first | (conv => arg 8; simp only [hq]) | (conv => arg 4; simp only [hq]))); clear hq)) | ((with_reducible first | refine c_split (fun hq => ?_) (fun hq => ?_) | refine q_split (fun hq => ?_) (fun hq => ?_)) <;> (try (first | (conv => arg 8; simp only [hq]) | (conv => arg 4; simp only [hq])))) | (with_reducible refine fin_0 ?_ (by first | rfl | (conv => lhs; simp only [go_sem, List.getElem?_map, hy, Option.map_some])) ?_) | exact Sub.refl _ | omega)
              · refine c_doesE (his0) ?_ ?_ ?_
                · ((try (conv => rhs; simp (disch := omega) only [go_sem])); try rfl)
                · first | rfl | (conv => lhs; simp only [go_sem])
                repeat' (first | with_reducible refine acc_none ?_ | (conv in hold _ => simp (disch := omega) only [go_sem]) | refine Stp.go ?_ | (with_reducible first | refine it_pos rfl ?_ | refine it_neg (by decide) ?_ | refine st_nil rfl ?_ | refine s_op ?_ ?_ | exact True.intro) | ((with_reducible first | refine dw_reg0 ?_ | refine dw_regB ?_); (conv => arg 3; whnf)) | (refine Spl.go (fun hq he => ?_) (fun hq he => ?_) <;> first | (exfalso; clear hq; omega) | ((try (first | (conv => arg 8; simp only [hq]) | (conv => arg 4; simp only [hq]))); clear hq)) | ((with_reducible first | refine c_split (fun hq => ?_) (fun hq => ?_) | refine q_split (fun hq => ?_) (fun hq => ?_)) <;> (try (first | (conv => arg 8; simp only [hq]) | (conv => arg 4; simp only [hq])))) | (with_reducible refine fin_0 ?_ (by first | rfl | (conv => lhs; simp only [go_sem])) ?_) | exact Sub.refl _ | omega)
                · have hf := hfe.trans (foldE_8 hemp hall (by assumption) y hm0 (by assumption))
                  rw [hf]
                  refine c_doesE (hk0) ?_ ?_ ?_
                  · ((try (conv => rhs; simp (disch := omega) only [go_sem])); try rfl)
                  · first | rfl | (conv => lhs; simp only [go_sem])
                  repeat' (first | with_reducible refine acc_none ?_ | (conv in hold _ => simp (disch := omega) only [go_sem]) | refine Stp.go ?_ | (with_reducible first | refine it_pos rfl ?_ | refine it_neg (by decide) ?_ | refine st_nil rfl ?_ | refine s_op ?_ ?_ | exact True.intro) | ((with_reducible first | refine dw_reg0 ?_ | refine dw_regB ?_); (conv => arg 3; whnf)) | (refine Spl.go (fun hq he => ?_) (fun hq he => ?_) <;> first | (exfalso; clear hq; omega) | ((try (first | (conv => arg 8; simp only [hq]) | (conv => arg 4; simp only [hq]))); clear hq)) | ((with_reducible first | refine c_split (fun hq => ?_) (fun hq => ?_) | refine q_split (fun hq => ?_) (fun hq => ?_)) <;> (try (first | (conv => arg 8; simp only [hq]) | (conv => arg 4; simp only [hq])))) | (with_reducible refine fin_0 ?_ (by first | rfl | (conv => lhs; simp only [go_sem])) ?_) | exact Sub.refl _ | omega)
                · refine ⟨hil, hJ' ⟨fun h' => ?_, fun h' => by omega⟩, Wk.list [1000000, 1000001, 1000002] rfl rfl ?_⟩
                  · have h8 := h'.2
                    simp_all
                  · repeat' (first | (conv in hold _ => simp (disch := omega) only [go_sem]) | exact True.intro | exact Sub.refl _ | omega)
              · refine c_doesE (his1) ?_ ?_ ?_
                · ((try (conv => rhs; simp (disch := omega) only [go_sem])); try rfl)
                · first | rfl | (conv => lhs; simp only [go_sem])
                repeat' (first | with_reducible refine acc_none ?_ | (conv in hold _ => simp (disch := omega) only [go_sem]) | refine Stp.go ?_ | (with_reducible first | refine it_pos rfl ?_ | refine it_neg (by decide) ?_ | refine st_nil rfl ?_ | refine s_op ?_ ?_ | exact True.intro) | ((with_reducible first | refine dw_reg0 ?_ | refine dw_regB ?_); (conv => arg 3; whnf)) | (refine Spl.go (fun hq he => ?_) (fun hq he => ?_) <;> first | (exfalso; clear hq; omega) | ((try (first | (conv => arg 8; simp only [hq]) | (conv => arg 4; simp only [hq]))); clear hq)) | ((with_reducible first | refine c_split (fun hq => ?_) (fun hq => ?_) | refine q_split (fun hq => ?_) (fun hq => ?_)) <;> (try (first | (conv => arg 8; simp only [hq]) | (conv => arg 4; simp only [hq])))) | (with_reducible refine fin_0 ?_ (by first | rfl | (conv => lhs; simp only [go_sem])) ?_) | exact Sub.refl _ | omega)
                · have hf := hfe.trans (foldE_9 hemp hall (by assumption) y hm0 (by assumption))
                  rw [hf]
                  refine c_doesE (hk1') ?_ ?_ ?_
                  · ((try (conv => rhs; simp (disch := omega) only [go_sem])); try rfl)
                  · first | rfl | (conv => lhs; simp only [go_sem])
                  repeat' (first | with_reducible refine acc_none ?_ | (conv in hold _ => simp (disch := omega) only [go_sem]) | refine Stp.go ?_ | (with_reducible first | refine it_pos rfl ?_ | refine it_neg (by decide) ?_ | refine st_nil rfl ?_ | refine s_op ?_ ?_ | exact True.intro) | ((with_reducible first | refine dw_reg0 ?_ | refine dw_regB ?_); (conv => arg 3; whnf)) | (refine Spl.go (fun hq he => ?_) (fun hq he => ?_) <;> first | (exfalso; clear hq; omega) | ((try (first | (conv => arg 8; simp only [hq]) | (conv => arg 4; simp only [hq]))); clear hq)) | ((with_reducible first | refine c_split (fun hq => ?_) (fun hq => ?_) | refine q_split (fun hq => ?_) (fun hq => ?_)) <;> (try (first | (conv => arg 8; simp only [hq]) | (conv => arg 4; simp only [hq])))) | (with_reducible refine fin_0 ?_ (by first | rfl | (conv => lhs; simp only [go_sem])) ?_) | exact Sub.refl _ | omega)
                · refine ⟨hil, hJ' ⟨fun h' => by omega, fun h' => ?_⟩, Wk.list [1000000, 1000001, 1000002] rfl rfl ?_⟩
                  · have h8 := h'.2
                    simp_all
                  · repeat' (first | (conv in hold _ => simp (disch := omega) only [go_sem]) | exact True.intro | exact Sub.refl _ | omega)
              · refine ⟨hil, hJ' ⟨fun h' => by omega, fun h' => by omega⟩, Wk.list [1000000, 1000001, 1000002] rfl rfl ?_⟩
                repeat' (first | (conv in hold _ => simp (disch := omega) only [go_sem]) | exact True.intro | exact Sub.refl _ | omega)
            · obtain rfl : i = e.ks.length := by omega
              have hf := hfe.trans (foldE_n hemp hall (fun y hy => by obtain ⟨j, hj⟩ := List.getElem?_of_mem hy; exact hJ j y (by have := (List.getElem?_eq_some_iff.1 hj).1; omega) hj))
              rw [hf]
              repeat' (first | with_reducible refine acc_none ?_ | (conv in hold _ => simp (disch := omega) only [go_sem]) | refine Stp.go ?_ | (with_reducible first | refine it_pos rfl ?_ | refine it_neg (by decide) ?_ | refine st_nil rfl ?_ | refine s_op ?_ ?_ | exact True.intro) | ((with_reducible first | refine dw_reg0 ?_ | refine dw_regB ?_); (conv => arg 3; whnf)) | (refine Spl.go (fun hq he => ?_) (fun hq he => ?_) <;> first | (exfalso; clear hq; omega) | ((try (first | (conv => arg 8; simp only [hq]) | (conv => arg 4; simp only [hq]))); clear hq)) | ((with_reducible first | refine c_split (fun hq => ?_) (fun hq => ?_) | refine q_split (fun hq => ?_) (fun hq => ?_)) <;> (try (first | (conv => arg 8; simp only [hq]) | (conv => arg 4; simp only [hq])))) | exact Sub.refl _ | omega)
              refine fin_wk (wk_frzO 1000000 1000002 (by decide) (by decide) rfl (by decide) rfl ?_) ?_
              rotate_left
              (conv in hold _ => simp (disch := omega) only [go_sem, e2, hll, Nat.le_refl])
              · refine fin_L [] ?_ ?_ rfl ?_
                repeat' (first | (conv in hold _ => simp (disch := omega) only [go_sem]) | exact True.intro | exact Sub.refl _ | omega)
              · exact exprs_pur _
theorem FoldExpr_spec (e : E) : Does Try.prog 23 [] [eD e] (eD (foldV e)) [] := by
  have hve := ValidExpr_ok e 6 (by decide)
  by_cases h : eOk e 6 8
  · have hs := fold_ok e 8 h (by decide)
    rw [decide_eq_true ⟨by decide, h⟩] at hve
    rw [foldV_t h]
    refine does0 c_spec_FoldExpr mixed (Nat.le_of_ble_eq_true rfl) ?_
    conv => arg 3; whnf
    repeat' (first | with_reducible refine acc_none ?_ | (conv in hold _ => simp (disch := omega) only [go_sem]) | refine Stp.go ?_ | (with_reducible first | refine it_pos rfl ?_ | refine it_neg (by decide) ?_ | refine st_nil rfl ?_ | refine s_op ?_ ?_ | exact True.intro) | ((with_reducible first | refine dw_reg0 ?_ | refine dw_regB ?_); (conv => arg 3; whnf)) | (refine Spl.go (fun hq he => ?_) (fun hq he => ?_) <;> first | (exfalso; clear hq; omega) | ((try (first | (conv => arg 8; simp only [hq]) | (conv => arg 4; simp only [hq]))); clear hq)) | ((with_reducible first | refine c_split (fun hq => ?_) (fun hq => ?_) | refine q_split (fun hq => ?_) (fun hq => ?_)) <;> (try (first | (conv => arg 8; simp only [hq]) | (conv => arg 4; simp only [hq])))) | (with_reducible refine fin_0 ?_ (by first | rfl | (conv => lhs; simp only [go_sem])) ?_) | exact Sub.refl _ | omega)
    refine c_doesE (hve) ?_ ?_ ?_
    · ((try (conv => rhs; simp (disch := omega) only [go_sem])); try rfl)
    · first | rfl | (conv => lhs; simp only [go_sem])
    repeat' (first | with_reducible refine acc_none ?_ | (conv in hold _ => simp (disch := omega) only [go_sem]) | refine Stp.go ?_ | (with_reducible first | refine it_pos rfl ?_ | refine it_neg (by decide) ?_ | refine st_nil rfl ?_ | refine s_op ?_ ?_ | exact True.intro) | ((with_reducible first | refine dw_reg0 ?_ | refine dw_regB ?_); (conv => arg 3; whnf)) | (refine Spl.go (fun hq he => ?_) (fun hq he => ?_) <;> first | (exfalso; clear hq; omega) | ((try (first | (conv => arg 8; simp only [hq]) | (conv => arg 4; simp only [hq]))); clear hq)) | ((with_reducible first | refine c_split (fun hq => ?_) (fun hq => ?_) | refine q_split (fun hq => ?_) (fun hq => ?_)) <;> (try (first | (conv => arg 8; simp only [hq]) | (conv => arg 4; simp only [hq])))) | (with_reducible refine fin_0 ?_ (by first | rfl | (conv => lhs; simp only [go_sem])) ?_) | exact Sub.refl _ | omega)
    refine c_doesE (hs) ?_ ?_ ?_
    · ((try (conv => rhs; simp (disch := omega) only [go_sem])); try rfl)
    · first | rfl | (conv => lhs; simp only [go_sem])
    repeat' (first | with_reducible refine acc_none ?_ | (conv in hold _ => simp (disch := omega) only [go_sem]) | refine Stp.go ?_ | (with_reducible first | refine it_pos rfl ?_ | refine it_neg (by decide) ?_ | refine st_nil rfl ?_ | refine s_op ?_ ?_ | exact True.intro) | ((with_reducible first | refine dw_reg0 ?_ | refine dw_regB ?_); (conv => arg 3; whnf)) | (refine Spl.go (fun hq he => ?_) (fun hq he => ?_) <;> first | (exfalso; clear hq; omega) | ((try (first | (conv => arg 8; simp only [hq]) | (conv => arg 4; simp only [hq]))); clear hq)) | ((with_reducible first | refine c_split (fun hq => ?_) (fun hq => ?_) | refine q_split (fun hq => ?_) (fun hq => ?_)) <;> (try (first | (conv => arg 8; simp only [hq]) | (conv => arg 4; simp only [hq])))) | (with_reducible refine fin_0 ?_ (by first | rfl | (conv => lhs; simp only [go_sem])) ?_) | exact Sub.refl _ | omega)
  · rw [decide_eq_false (fun h' => h h'.2)] at hve
    rw [foldV_f h]
    refine does0 c_spec_FoldExpr mixed (Nat.le_of_ble_eq_true rfl) ?_
    conv => arg 3; whnf
    repeat' (first | with_reducible refine acc_none ?_ | (conv in hold _ => simp (disch := omega) only [go_sem]) | refine Stp.go ?_ | (with_reducible first | refine it_pos rfl ?_ | refine it_neg (by decide) ?_ | refine st_nil rfl ?_ | refine s_op ?_ ?_ | exact True.intro) | ((with_reducible first | refine dw_reg0 ?_ | refine dw_regB ?_); (conv => arg 3; whnf)) | (refine Spl.go (fun hq he => ?_) (fun hq he => ?_) <;> first | (exfalso; clear hq; omega) | ((try (first | (conv => arg 8; simp only [hq]) | (conv => arg 4; simp only [hq]))); clear hq)) | ((with_reducible first | refine c_split (fun hq => ?_) (fun hq => ?_) | refine q_split (fun hq => ?_) (fun hq => ?_)) <;> (try (first | (conv => arg 8; simp only [hq]) | (conv => arg 4; simp only [hq])))) | (with_reducible refine fin_0 ?_ (by first | rfl | (conv => lhs; simp only [go_sem])) ?_) | exact Sub.refl _ | omega)
    refine c_doesE (hve) ?_ ?_ ?_
    · ((try (conv => rhs; simp (disch := omega) only [go_sem])); try rfl)
    · first | rfl | (conv => lhs; simp only [go_sem])
    repeat' (first | with_reducible refine acc_none ?_ | (conv in hold _ => simp (disch := omega) only [go_sem]) | refine Stp.go ?_ | (with_reducible first | refine it_pos rfl ?_ | refine it_neg (by decide) ?_ | refine st_nil rfl ?_ | refine s_op ?_ ?_ | exact True.intro) | ((with_reducible first | refine dw_reg0 ?_ | refine dw_regB ?_); (conv => arg 3; whnf)) | (refine Spl.go (fun hq he => ?_) (fun hq he => ?_) <;> first | (exfalso; clear hq; omega) | ((try (first | (conv => arg 8; simp only [hq]) | (conv => arg 4; simp only [hq]))); clear hq)) | ((with_reducible first | refine c_split (fun hq => ?_) (fun hq => ?_) | refine q_split (fun hq => ?_) (fun hq => ?_)) <;> (try (first | (conv => arg 8; simp only [hq]) | (conv => arg 4; simp only [hq])))) | (with_reducible refine fin_0 ?_ (by first | rfl | (conv => lhs; simp only [go_sem])) ?_) | exact Sub.refl _ | omega)
    exact Sub.agg ⟨Sub.refl _, Sub.refl _, Sub.refl _, Sub.refl _, Sub.nul 5, trivial⟩
end Go.Proofs.Ytnakdmodegfibaa
