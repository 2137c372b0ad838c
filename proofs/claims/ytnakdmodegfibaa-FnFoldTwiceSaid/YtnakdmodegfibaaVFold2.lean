/-
  Folding keeps validity; rewriteExpr with the folder. rewriteExpr with the folder, FoldExpr of the program. Folding twice. No condition.
-/
import Derived.Test.YtnakdmodegfibaaDca
import Derived.Test.YtnakdmodegfibaaDcd
import Derived.Test.YtnakdmodegfibaaVFoldF
set_option maxHeartbeats 4000000
set_option maxRecDepth 100000
namespace Go.Proofs.Ytnakdmodegfibaa
section
open Go.RowKit

theorem const_ok {v : V} (hv : v.ok) (w : Int) (d : Nat) : eOk (.mk 2 0 v []) w d := by
  refine (eOk_iff _ w d).2 ⟨rfl, (fun h => absurd h (Nat.lt_irrefl 0)), (fun x hx => by cases hx), ?_⟩
  show leafOk 2 0 v w
  unfold leafOk
  rw [if_neg (by decide), if_pos rfl]
  exact ⟨rfl, hv⟩
theorem foldTop_ok {w : Int} {e : E} {d : Nat} (h : eOk e w d) : eOk (foldTop e) w d := by
  have h1 := (eOk_iff e w d).1 h
  unfold foldTop
  split
  · exact h
  · rename_i hemp
    have hlen : 0 < e.ks.length := List.length_pos_iff.2 (fun h' => hemp (by rw [h']; rfl))
    split
    · rename_i hall
      have hk1 : ¬ e.k = 1 := fun h' => by have := h1.1; rw [kidsN_leaf (Or.inl h')] at this; omega
      have hz := eOk_zero h hk1 (fun x hx => List.all_eq_true.1 hall x hx)
      exact const_ok (ev_ok (row := []) (fun v hv => by cases hv) e d hz) w d
    · split
      · exact const_ok ⟨by decide, by decide, fun h => by cases h⟩ w d
      · split
        · exact const_ok ⟨by decide, by decide, fun h => by cases h⟩ w d
        · exact h
theorem foldKids_ok {w : Int} {e : E} {d : Nat} (h : eOk e w d) (ih : ∀ x, x ∈ e.ks → eOk (foldE x) w (d - 1)) : eOk (.mk e.k e.c e.v (foldL e.ks)) w d := by
  have h1 := (eOk_iff e w d).1 h
  refine (eOk_iff _ w d).2 ⟨?_, fun hp => h1.2.1 ?_, fun y hy => ?_, h1.2.2.2⟩
  · show ((foldL e.ks).length : Int) = kidsN e.k
    rw [foldL_map, List.length_map]
    exact h1.1
  · have : 0 < (foldL e.ks).length := hp
    rw [foldL_map, List.length_map] at this
    exact this
  · have hy' : y ∈ foldL e.ks := hy
    rw [foldL_map] at hy'
    obtain ⟨x, hx, rfl⟩ := List.mem_map.1 hy'
    exact ih x hx
theorem foldE_ok {w : Int} : ∀ (e : E) (d : Nat), eOk e w d → eOk (foldE e) w d := by
  refine E.ind (fun e ih d h => ?_)
  rw [foldE_eq]
  exact foldTop_ok (foldKids_ok h fun x hx => ih x hx (d - 1) (((eOk_iff e w d).1 h).2.2.1 x hx))
end
section
open Go.RowKit

theorem rewrite_ok : ∀ (e : E) (d : Nat), eOk e 6 d → Does Try.prog 49 [] [eD e, .ifc 74 (.agg [])] (eD (foldE e)) [] := by
  refine E.ind (fun e ih d h => ?_)
  have h1 := (eOk_iff e 6 d).1 h
  have hn2 := kidsN_le e.k
  have hlen : e.ks.length ≤ 2 := by omega
  have hm : methOf Try.prog 74 name_impl_visit = some 96 := by kernel_rfl
  have hv := visit_ok _ d (foldKids_ok h fun x hx => foldE_ok x (d - 1) (h1.2.2.1 x hx))
  rw [← foldE_eq, eD_eq] at hv
  have hfl := foldL_map e.ks
  have hll : (foldL e.ks).length = e.ks.length := by rw [hfl, List.length_map]
  refine does0 c_impl_rewriteExpr mixed (Nat.le_of_ble_eq_true rfl) ?_
  conv => arg 3; whnf
  repeat' (first | with_reducible refine acc_none ?_ | (conv in hold _ => simp (disch := omega) only [go_sem]) | refine Stp.go ?_ | (with_reducible first | refine it_pos rfl ?_ | refine it_neg (by decide) ?_ | refine st_nil rfl ?_ | refine s_op ?_ ?_ | exact True.intro) | ((with_reducible first | refine dw_reg0 ?_ | refine dw_regB ?_); (conv => arg 3; whnf)) | (refine Spl.go (fun hq he => ?_) (fun hq he => ?_) <;> first | (exfalso; clear hq; omega) | ((try (first | (conv => arg 8; simp only [hq]) | (conv => arg 4; simp only [hq]))); clear hq)) | ((with_reducible first | refine c_split (fun hq => ?_) (fun hq => ?_) | refine q_split (fun hq => ?_) (fun hq => ?_)) <;> (try (first | (conv => arg 8; simp only [hq]) | (conv => arg 4; simp only [hq])))) | (with_reducible refine fin_0 ?_ (by first | rfl | (conv => lhs; simp only [go_sem])) ?_) | exact Sub.refl _ | omega)
  refine dw_for (c := 3) (l := fun i => [(1, .ifc 74 (.agg [])), (2, .ref 1000000 0), (4, .ref 1000001 0), (5, .own 1000002 5 i), (9, .sl 5 (e.ks.map eD)), (10, I e.ks.length), (11, I i), (1000000, .obj [I e.k, I e.c, Bo e.v.b, I e.v.n, .sl 5 (e.ks.map eD)]), (1000001, .obj [I 0, I 0, Bo false, I 0, .nul]), (1000002, .row 5 (((foldL e.ks).take i).map eD))]) e.ks.length (fun _ => True) 0 trivial ((wk_row 5 2000020 5 (by decide) (by decide) rfl rfl).trans (Wk.list [2000002, 2000004, 2000020] rfl rfl ?_)) (fun i hi _ => ?_) (Nat.zero_le _)
  · repeat' (first | (conv in hold _ => simp (disch := omega) only [go_sem]) | exact True.intro | exact Sub.refl _ | omega)
    exact rfl
  · have hlt := take_len (vs := foldL e.ks) (i := i) (by omega)
    have hmt := take_map eD (vs := foldL e.ks) (i := i) (by omega)
    rcases at_or_end hi with ⟨x, hx, hlt1⟩ | rfl
    · have hix := ih x (List.mem_of_getElem? hx) (d - 1) (h1.2.2.1 x (List.mem_of_getElem? hx))
      have hfx : (foldL e.ks)[i]? = some (foldE x) := by rw [hfl, List.getElem?_map, hx]; rfl
      have hnx := take_next hfx
      repeat' (first | with_reducible refine acc_none ?_ | (conv in hold _ => simp (disch := omega) only [go_sem, List.getElem?_map, hx, Option.map_some]) | refine Stp.go ?_ | (with_reducible first | refine it_pos rfl ?_ | refine it_neg (by decide) ?_ | refine st_nil rfl ?_ | refine s_op ?_ ?_ | exact True.intro) | ((with_reducible first | refine dw_reg0 ?_ | refine dw_regB ?_); (conv => arg 3; whnf)) | (refine Spl.go (fun hq he => ?_) (fun hq he => ?_) <;> first | (exfalso; clear hq; omega) | ((try (first | (conv => arg 8; simp only [hq]) | (conv => arg 4; simp only [hq]))); clear hq)) | ((with_reducible first | refine c_split (fun hq => ?_) (fun hq => ?_) | refine q_split (fun hq => ?_) (fun hq => ?_)) <;> (try (first | (conv => arg 8; simp only [hq]) | (conv => arg 4; simp only [hq])))) | (with_reducible refine fin_0 ?_ (by first | rfl | (conv => lhs; simp only [go_sem, List.getElem?_map, hx, Option.map_some])) ?_) | exact Sub.refl _ | omega)
      refine c_doesE (hix) ?_ ?_ ?_
      · ((try (conv => rhs; simp (disch := omega) only [go_sem])); try rfl)
      · first | rfl | (conv => lhs; simp only [go_sem])
      repeat' (first | with_reducible refine acc_none ?_ | (conv in hold _ => simp (disch := omega) only [go_sem]) | refine Stp.go ?_ | (with_reducible first | refine it_pos rfl ?_ | refine it_neg (by decide) ?_ | refine st_nil rfl ?_ | refine s_op ?_ ?_ | exact True.intro) | ((with_reducible first | refine dw_reg0 ?_ | refine dw_regB ?_); (conv => arg 3; whnf)) | (refine Spl.go (fun hq he => ?_) (fun hq he => ?_) <;> first | (exfalso; clear hq; omega) | ((try (first | (conv => arg 8; simp only [hq]) | (conv => arg 4; simp only [hq]))); clear hq)) | ((with_reducible first | refine c_split (fun hq => ?_) (fun hq => ?_) | refine q_split (fun hq => ?_) (fun hq => ?_)) <;> (try (first | (conv => arg 8; simp only [hq]) | (conv => arg 4; simp only [hq])))) | (with_reducible refine fin_0 ?_ (by first | rfl | (conv => lhs; simp only [go_sem])) ?_) | exact Sub.refl _ | omega)
      refine ⟨hlt1, trivial, Wk.list [1000000, 1000001, 2000020] rfl rfl ?_⟩
      repeat' (first | (conv in hold _ => simp (disch := omega) only [go_sem]) | exact True.intro | exact Sub.refl _ | omega)
      rw [hmt, hnx, List.map_append, List.map_cons, List.map_nil, eD_eq (foldE x)]
    · have e1 : (foldL e.ks).take e.ks.length = foldL e.ks := List.take_of_length_le (by omega)
      have e2 : ((foldL e.ks).map eD).take e.ks.length = (foldL e.ks).map eD := List.take_of_length_le (by rw [List.length_map]; omega)
      repeat' ((fail_if_success (with_reducible first | refine s_call ?_ | refine s_cal ?_ | refine s_inv ?_)); first | with_reducible refine acc_none ?_ | (conv in hold _ => simp (disch := omega) only [go_sem, e1]) | refine Stp.go ?_ | (with_reducible first | refine it_pos rfl ?_ | refine it_neg (by decide) ?_ | refine st_nil rfl ?_ | refine s_op ?_ ?_ | exact True.intro) | ((with_reducible first | refine dw_reg0 ?_ | refine dw_regB ?_); (conv => arg 3; whnf)) | (refine Spl.go (fun hq he => ?_) (fun hq he => ?_) <;> first | (exfalso; clear hq; omega) | ((try (first | (conv => arg 8; simp only [hq]) | (conv => arg 4; simp only [hq]))); clear hq)) | ((with_reducible first | refine c_split (fun hq => ?_) (fun hq => ?_) | refine q_split (fun hq => ?_) (fun hq => ?_)) <;> (try (first | (conv => arg 8; simp only [hq]) | (conv => arg 4; simp only [hq])))) | (with_reducible refine fin_0 ?_ (by first | rfl | (conv => lhs; simp only [go_sem, e1])) ?_) | exact Sub.refl _ | omega)
      refine s_pre (pre_frz (t := 25) (g := 1000002) (by decide) (by decide) rfl ?_) ?_
      rotate_left
      repeat' (first | with_reducible refine acc_none ?_ | (conv in hold _ => simp (disch := omega) only [go_sem, e1, e2, hll, Nat.le_refl]) | refine Stp.go ?_ | (with_reducible first | refine it_pos rfl ?_ | refine it_neg (by decide) ?_ | refine st_nil rfl ?_ | refine s_op ?_ ?_ | exact True.intro) | ((with_reducible first | refine dw_reg0 ?_ | refine dw_regB ?_); (conv => arg 3; whnf)) | (refine Spl.go (fun hq he => ?_) (fun hq he => ?_) <;> first | (exfalso; clear hq; omega) | ((try (first | (conv => arg 8; simp only [hq]) | (conv => arg 4; simp only [hq]))); clear hq)) | ((with_reducible first | refine c_split (fun hq => ?_) (fun hq => ?_) | refine q_split (fun hq => ?_) (fun hq => ?_)) <;> (try (first | (conv => arg 8; simp only [hq]) | (conv => arg 4; simp only [hq])))) | (with_reducible refine fin_0 ?_ (by first | rfl | (conv => lhs; simp only [go_sem, e1, e2, hll, Nat.le_refl])) ?_) | exact Sub.refl _ | omega)
      refine i_meth (hm) ?_
      refine c_doesE (hv) ?_ ?_ ?_
      · ((try (conv => rhs; simp (disch := omega) only [go_sem, e2, hll, Nat.le_refl])); try rfl)
      · first | rfl | (conv => lhs; simp only [go_sem, e2, hll, Nat.le_refl])
      repeat' (first | with_reducible refine acc_none ?_ | (conv in hold _ => simp (disch := omega) only [go_sem, e2, hll, Nat.le_refl]) | refine Stp.go ?_ | (with_reducible first | refine it_pos rfl ?_ | refine it_neg (by decide) ?_ | refine st_nil rfl ?_ | refine s_op ?_ ?_ | exact True.intro) | ((with_reducible first | refine dw_reg0 ?_ | refine dw_regB ?_); (conv => arg 3; whnf)) | (refine Spl.go (fun hq he => ?_) (fun hq he => ?_) <;> first | (exfalso; clear hq; omega) | ((try (first | (conv => arg 8; simp only [hq]) | (conv => arg 4; simp only [hq]))); clear hq)) | ((with_reducible first | refine c_split (fun hq => ?_) (fun hq => ?_) | refine q_split (fun hq => ?_) (fun hq => ?_)) <;> (try (first | (conv => arg 8; simp only [hq]) | (conv => arg 4; simp only [hq])))) | (with_reducible refine fin_0 ?_ (by first | rfl | (conv => lhs; simp only [go_sem, e2, hll, Nat.le_refl])) ?_) | exact Sub.refl _ | omega)
      exact exprs_pur _
/-- What both packages answer. -/
noncomputable def foldV (e : E) : E := if eOk e 6 8 then foldE e else .mk 0 0 ⟨false, 0⟩ []
theorem foldV_t {e : E} (h : eOk e 6 8) : foldV e = foldE e := if_pos h
theorem foldV_f {e : E} (h : ¬ eOk e 6 8) : foldV e = .mk 0 0 ⟨false, 0⟩ [] := if_neg h
theorem FoldExpr_impl (e : E) : Does Try.prog 21 [] [eD e] (eD (foldV e)) [] := by
  have hve := implValidExpr_ok e 6
  by_cases h : eOk e 6 8
  · have hs := rewrite_ok e 8 h
    rw [decide_eq_true ⟨by decide, h⟩] at hve
    rw [foldV_t h]
    refine does0 c_impl_FoldExpr mixed (Nat.le_of_ble_eq_true rfl) ?_
    conv => arg 3; whnf
    repeat' (first | with_reducible refine acc_none ?_ | (conv in hold _ => simp (disch := omega) only [go_sem]) | refine Stp.go ?_ | (with_reducible first | refine it_pos rfl ?_ | refine it_neg (by decide) ?_ | refine st_nil rfl ?_ | refine s_op ?_ ?_ | exact True.intro) | ((with_reducible first | refine dw_reg0 ?_ | refine dw_regB ?_); (conv => arg 3; whnf)) | (refine Spl.go (fun hq he => ?_) (fun hq he => ?_) <;> first | (exfalso; clear hq; omega) | ((try (first | (conv => arg 8; simp only [hq]) | (conv => arg 4; simp only [hq]))); clear hq)) | ((with_reducible first | refine c_split (fun hq => ?_) (fun hq => ?_) | refine q_split (fun hq => ?_) (fun hq => ?_)) <;> (try (first | (conv => arg 8; simp only [hq]) | (conv => arg 4; simp only [hq])))) | (with_reducible refine fin_0 ?_ (by first | rfl | (conv => lhs; simp only [go_sem])) ?_) | exact Sub.refl _ | omega)
    refine c_doesE (hve) ?_ ?_ ?_
    · ((try (conv => rhs; simp (disch := omega) only [go_sem])); try rfl)
    · first | rfl | (conv => lhs; simp only [go_sem])
    repeat' (first | with_reducible refine acc_none ?_ | (conv in hold _ => simp (disch := omega) only [go_sem]) | refine Stp.go ?_ | (with_reducible first | refine it_pos rfl ?_ | refine it_neg (by decide) ?_ | refine st_nil rfl ?_ | refine s_op ?_ ?_ | exact True.intro) | ((with_reducible first | refine dw_reg0 ?_ | refine dw_regB ?_); (conv => arg 3; whnf)) | (refine Spl.go (fun hq he => ?_) (fun hq he => ?_) <;> first | (exfalso; clear hq; omega) | ((try (first | (conv => arg 8; simp only [hq]) | (conv => arg 4; simp only [hq]))); clear hq)) | ((with_reducible first | refine c_split (fun hq => ?_) (fun hq => ?_) | refine q_split (fun hq => ?_) (fun hq => ?_)) <;> (try (first | (conv => arg 8; simp only [hq]) | (conv => arg 4; simp only [hq])))) | (with_reducible refine fin_0 ?_ (by first | rfl | (conv => lhs; simp only [go_sem])) ?_) | exact Sub.refl _ | omega)
    refine c_doesE (hs) ?_ ?_ ?_
    · ((try (conv => rhs; simp (disch := omega) only [go_sem])); try rfl)
    · first | rfl | (conv => lhs; simp only [go_sem])
    repeat' (first | with_reducible refine acc_none ?_ | (conv in hold _ => simp (disch := omega) only [go_sem]) | refine Stp.go ?_ | (with_reducible first | refine it_pos rfl ?_ | refine it_neg (by decide) ?_ | refine st_nil rfl ?_ | refine s_op ?_ ?_ | exact True.intro) | ((with_reducible first | refine dw_reg0 ?_ | refine dw_regB ?_); (conv => arg 3; whnf)) | (refine Spl.go (fun hq he => ?_) (fun hq he => ?_) <;> first | (exfalso; clear hq; omega) | ((try (first | (conv => arg 8; simp only [hq]) | (conv => arg 4; simp only [hq]))); clear hq)) | ((with_reducible first | refine c_split (fun hq => ?_) (fun hq => ?_) | refine q_split (fun hq => ?_) (fun hq => ?_)) <;> (try (first | (conv => arg 8; simp only [hq]) | (conv => arg 4; simp only [hq])))) | (with_reducible refine fin_0 ?_ (by first | rfl | (conv => lhs; simp only [go_sem])) ?_) | exact Sub.refl _ | omega)
  · rw [decide_eq_false (fun h' => h h'.2)] at hve
    rw [foldV_f h]
    refine does0 c_impl_FoldExpr mixed (Nat.le_of_ble_eq_true rfl) ?_
    conv => arg 3; whnf
    repeat' (first | with_reducible refine acc_none ?_ | (conv in hold _ => simp (disch := omega) only [go_sem]) | refine Stp.go ?_ | (with_reducible first | refine it_pos rfl ?_ | refine it_neg (by decide) ?_ | refine st_nil rfl ?_ | refine s_op ?_ ?_ | exact True.intro) | ((with_reducible first | refine dw_reg0 ?_ | refine dw_regB ?_); (conv => arg 3; whnf)) | (refine Spl.go (fun hq he => ?_) (fun hq he => ?_) <;> first | (exfalso; clear hq; omega) | ((try (first | (conv => arg 8; simp only [hq]) | (conv => arg 4; simp only [hq]))); clear hq)) | ((with_reducible first | refine c_split (fun hq => ?_) (fun hq => ?_) | refine q_split (fun hq => ?_) (fun hq => ?_)) <;> (try (first | (conv => arg 8; simp only [hq]) | (conv => arg 4; simp only [hq])))) | (with_reducible refine fin_0 ?_ (by first | rfl | (conv => lhs; simp only [go_sem])) ?_) | exact Sub.refl _ | omega)
    refine c_doesE (hve) ?_ ?_ ?_
    · ((try (conv => rhs; simp (disch := omega) only [go_sem])); try rfl)
    · first | rfl | (conv => lhs; simp only [go_sem])
    repeat' (first | with_reducible refine acc_none ?_ | (conv in hold _ => simp (disch := omega) only [go_sem]) | refine Stp.go ?_ | (with_reducible first | refine it_pos rfl ?_ | refine it_neg (by decide) ?_ | refine st_nil rfl ?_ | refine s_op ?_ ?_ | exact True.intro) | ((with_reducible first | refine dw_reg0 ?_ | refine dw_regB ?_); (conv => arg 3; whnf)) | (refine Spl.go (fun hq he => ?_) (fun hq he => ?_) <;> first | (exfalso; clear hq; omega) | ((try (first | (conv => arg 8; simp only [hq]) | (conv => arg 4; simp only [hq]))); clear hq)) | ((with_reducible first | refine c_split (fun hq => ?_) (fun hq => ?_) | refine q_split (fun hq => ?_) (fun hq => ?_)) <;> (try (first | (conv => arg 8; simp only [hq]) | (conv => arg 4; simp only [hq])))) | (with_reducible refine fin_0 ?_ (by first | rfl | (conv => lhs; simp only [go_sem])) ?_) | exact Sub.refl _ | omega)
    exact Sub.agg ⟨Sub.refl _, Sub.refl _, Sub.refl _, Sub.refl _, Sub.nul 5, trivial⟩
end
section
open Go.RowKit

theorem foldTop_or (e : E) : foldTop e = e ∨ ∃ v, foldTop e = .mk 2 0 v [] := by
  unfold foldTop
  split
  · exact Or.inl rfl
  · split
    · exact Or.inr ⟨_, rfl⟩
    · split
      · exact Or.inr ⟨_, rfl⟩
      · split
        · exact Or.inr ⟨_, rfl⟩
        · exact Or.inl rfl
theorem foldE_const (v : V) : foldE (.mk 2 0 v []) = .mk 2 0 v [] := by
  rw [foldE_eq]
  show foldTop (.mk 2 0 v (foldL [])) = _
  rw [foldL]
  unfold foldTop
  exact if_pos rfl
theorem foldE_twice : ∀ e : E, foldE (foldE e) = foldE e := by
  refine E.ind (fun e ih => ?_)
  have hl : foldL (foldL e.ks) = foldL e.ks := by
    rw [foldL_map, foldL_map, List.map_map]
    exact List.map_congr_left (fun x hx => ih x hx)
  rw [foldE_eq e]
  rcases foldTop_or (.mk e.k e.c e.v (foldL e.ks)) with h | ⟨v, h⟩
  · rw [h, foldE_eq]
    show foldTop (.mk e.k e.c e.v (foldL (foldL e.ks))) = _
    rw [hl, h]
  · rw [h, foldE_const]
theorem foldV_twice (e : E) (h : eOk e 6 8) : foldV (foldV e) = foldV e := by
  rw [foldV_t h, foldV_t (foldE_ok e 8 h), foldE_twice]
end
end Go.Proofs.Ytnakdmodegfibaa
