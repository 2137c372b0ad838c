/-
  The program's valid queries. No condition.
-/
import Derived.Test.YtenbhgkfbjfocaaVRu
set_option maxHeartbeats 4000000
set_option maxRecDepth 100000
namespace Go.Proofs.Ytenbhgkfbjfocaa
open Go.RowKit

/-- The place of the first of a list that p holds of, -1 if there is none. -/
def place {α : Type} (p : α → Bool) (l : List α) : Int := if l.any p then (l.findIdx p : Int) else -1
theorem place_at {α : Type} {p : α → Bool} {l : List α} {i : Nat} {x : α} (hx : l[i]? = some x) (hp : p x = true) (h : ∀ (j : Nat) (u : α), j < i → l[j]? = some u → p u = false) : place p l = i := by
  have hlt := (List.getElem?_eq_some_iff.1 hx).1
  have hxe := (List.getElem?_eq_some_iff.1 hx).2
  have h1 : l.findIdx p = i := (List.findIdx_eq hlt).2 ⟨by rw [hxe]; exact hp, fun j hj => h j _ hj (List.getElem?_eq_getElem (by omega))⟩
  unfold place
  rw [if_pos (List.any_eq_true.2 ⟨x, List.mem_of_getElem? hx, hp⟩), h1]
theorem place_none {α : Type} {p : α → Bool} {l : List α} (h : ∀ u, u ∈ l → p u = false) : place p l = -1 := by
  unfold place
  rw [if_neg]
  intro ha
  obtain ⟨x, hx, hp⟩ := List.any_eq_true.1 ha
  rw [h x hx] at hp
  cases hp
theorem place_pos {α : Type} (p : α → Bool) (l : List α) : (0 ≤ place p l) ↔ l.any p = true := by
  unfold place
  by_cases h : l.any p = true
  · rw [if_pos h]; exact ⟨fun _ => h, fun _ => by omega⟩
  · rw [if_neg h]; exact ⟨fun h' => by omega, fun h' => absurd h' h⟩
theorem indexFuncR_ok (l : List Tr) (hl : l.length < 2000000) (f : FuncId) (hf : enters Try.prog f = true) (t : Int) (p : Tr → Bool) (h : ∀ x, x ∈ l → Does Try.prog f [.obj [I t]] [trD x, .ref 1000000 0] (Bo (p x)) [.obj [I t]]) : Does Try.prog 41 [.obj [I t]] [trsD l, .fn f [.ref 1000000 0]] (I (place p l)) [.obj [I t]] := by
  refine does c_slices_IndexFunc___loop_example_queryoptimizer_impl_Atom_loop_example_queryoptimizer_impl_Atom_ mixed (Nat.le_of_ble_eq_true rfl) 1 rfl ?_
  conv => arg 3; whnf
  repeat' (first
    | with_reducible refine acc_none ?_
    | (conv in hold _ => simp (disch := omega) only [go_sem, Nat.reduceEqDiff, Nat.reduceAdd, Nat.reduceMul, Nat.reduceSub, Nat.reduceLT, Nat.reduceLeDiff, ↓reduceIte, reduceCtorEq, Int.reduceToNat])
    | refine Stp.go ?_
    | with_reducible first | refine it_pos rfl ?_ | refine it_neg (by decide) ?_ | refine st_nil rfl ?_ | refine s_op ?_ ?_ | exact True.intro
    | ((with_reducible first | refine dw_reg0 ?_ | refine dw_regB ?_); (conv => arg 3; whnf))
    | (refine Spl.go (fun hq he => ?_) (fun hq he => ?_) <;> first | (exfalso; clear hq; omega) | ((try (first | (conv => arg 8; simp only [hq]) | (conv => arg 4; simp only [hq]))); clear hq))
    | ((with_reducible first | refine c_split (fun hq => ?_) (fun hq => ?_) | refine q_split (fun hq => ?_) (fun hq => ?_)) <;> (try (first | (conv => arg 8; simp only [hq]) | (conv => arg 4; simp only [hq]))))
    | (with_reducible refine fin_0 ?_ (by first | rfl | (conv => lhs; simp only [go_sem])) ?_)
    | exact Sub.refl _
    | omega)
  refine dw_for (c := 1) (l := fun i => [(0, trsD l), (1, .fn f [.ref 1000000 0]), (7, I l.length), (8, I i), (1000000, .obj [I t])]) l.length (fun i => ∀ (j : Nat) (u : Tr), j < i → l[j]? = some u → p u = false) 0 (by omega) (Wk.list [1000000] rfl rfl ?_) (fun i hi hJ => ?_) (Nat.zero_le _)
  · repeat' (first | (conv in hold _ => simp (disch := omega) only [go_sem, Nat.reduceEqDiff, Nat.reduceAdd, Nat.reduceMul, Nat.reduceSub, Nat.reduceLT, Nat.reduceLeDiff, ↓reduceIte, reduceCtorEq, Int.reduceToNat]) | exact True.intro | exact Sub.refl _ | omega)
    exact rfl
  · rcases at_or_end hi with ⟨x, hx, hlt⟩ | rfl
    · have hix := h x (List.mem_of_getElem? hx)
      repeat' (first
        | with_reducible refine acc_none ?_
        | (conv in hold _ => simp (disch := omega) only [go_sem, Nat.reduceEqDiff, Nat.reduceAdd, Nat.reduceMul, Nat.reduceSub, Nat.reduceLT, Nat.reduceLeDiff, ↓reduceIte, reduceCtorEq, Int.reduceToNat, List.getElem?_map, hx, Option.map_some])
        | refine Stp.go ?_
        | with_reducible first | refine it_pos rfl ?_ | refine it_neg (by decide) ?_ | refine st_nil rfl ?_ | refine s_op ?_ ?_ | exact True.intro
        | ((with_reducible first | refine dw_reg0 ?_ | refine dw_regB ?_); (conv => arg 3; whnf))
        | (refine Spl.go (fun hq he => ?_) (fun hq he => ?_) <;> first | (exfalso; clear hq; omega) | ((try (first | (conv => arg 8; simp only [hq]) | (conv => arg 4; simp only [hq]))); clear hq))
        | ((with_reducible first | refine c_split (fun hq => ?_) (fun hq => ?_) | refine q_split (fun hq => ?_) (fun hq => ?_)) <;> (try (first | (conv => arg 8; simp only [hq]) | (conv => arg 4; simp only [hq]))))
        | (with_reducible refine fin_0 ?_ (by first | rfl | (conv => lhs; simp only [go_sem, List.getElem?_map, hx, Option.map_some])) ?_)
        | exact Sub.refl _
        | omega)
      refine v_fn (hf) ?_
      refine c_doesR [1000000] (hix) (callOK_of rfl (Nat.le_of_ble_eq_true rfl) rfl ?_ ?_) ?_ ?_
      · repeat' (first | (conv in hold _ => simp (disch := omega) only [go_sem, Nat.reduceEqDiff, Nat.reduceAdd, Nat.reduceMul, Nat.reduceSub, Nat.reduceLT, Nat.reduceLeDiff, ↓reduceIte, reduceCtorEq, Int.reduceToNat]) | exact True.intro | exact Sub.refl _ | omega)
      · repeat' (first | (conv in hold _ => simp (disch := omega) only [go_sem, Nat.reduceEqDiff, Nat.reduceAdd, Nat.reduceMul, Nat.reduceSub, Nat.reduceLT, Nat.reduceLeDiff, ↓reduceIte, reduceCtorEq, Int.reduceToNat]) | exact True.intro | exact Sub.refl _ | omega)
      · ((conv => rhs; simp (disch := omega) only [go_sem, Nat.reduceEqDiff, Nat.reduceAdd, Nat.reduceMul, Nat.reduceSub, Nat.reduceLT, Nat.reduceLeDiff, ↓reduceIte, reduceCtorEq, Int.reduceToNat]); try rfl)
      repeat' (first
        | with_reducible refine acc_none ?_
        | (conv in hold _ => simp (disch := omega) only [go_sem, Nat.reduceEqDiff, Nat.reduceAdd, Nat.reduceMul, Nat.reduceSub, Nat.reduceLT, Nat.reduceLeDiff, ↓reduceIte, reduceCtorEq, Int.reduceToNat])
        | refine Stp.go ?_
        | with_reducible first | refine it_pos rfl ?_ | refine it_neg (by decide) ?_ | refine st_nil rfl ?_ | refine s_op ?_ ?_ | exact True.intro
        | ((with_reducible first | refine dw_reg0 ?_ | refine dw_regB ?_); (conv => arg 3; whnf))
        | (refine Spl.go (fun hq he => ?_) (fun hq he => ?_) <;> first | (exfalso; clear hq; omega) | ((try (first | (conv => arg 8; simp only [hq]) | (conv => arg 4; simp only [hq]))); clear hq))
        | ((with_reducible first | refine c_split (fun hq => ?_) (fun hq => ?_) | refine q_split (fun hq => ?_) (fun hq => ?_)) <;> (try (first | (conv => arg 8; simp only [hq]) | (conv => arg 4; simp only [hq]))))
        | (with_reducible refine fin_0 ?_ (by first | rfl | (conv => lhs; simp only [go_sem])) ?_)
        | exact Sub.refl _
        | omega)
      · refine fin_L [1000000] ?_ ?_ rfl ?_
        repeat' (first | (conv in hold _ => simp (disch := omega) only [go_sem, Nat.reduceEqDiff, Nat.reduceAdd, Nat.reduceMul, Nat.reduceSub, Nat.reduceLT, Nat.reduceLeDiff, ↓reduceIte, reduceCtorEq, Int.reduceToNat]) | exact True.intro | exact Sub.refl _ | omega)
        exact Sub.of_eq (by rw [place_at hx hq hJ])
      · refine ⟨hlt, upto_next (p := fun u => p u = false) hx hJ hq, Wk.list [1000000] rfl rfl ?_⟩
        repeat' (first | (conv in hold _ => simp (disch := omega) only [go_sem, Nat.reduceEqDiff, Nat.reduceAdd, Nat.reduceMul, Nat.reduceSub, Nat.reduceLT, Nat.reduceLeDiff, ↓reduceIte, reduceCtorEq, Int.reduceToNat]) | exact True.intro | exact Sub.refl _ | omega)
    · repeat' (first
        | with_reducible refine acc_none ?_
        | (conv in hold _ => simp (disch := omega) only [go_sem, Nat.reduceEqDiff, Nat.reduceAdd, Nat.reduceMul, Nat.reduceSub, Nat.reduceLT, Nat.reduceLeDiff, ↓reduceIte, reduceCtorEq, Int.reduceToNat])
        | refine Stp.go ?_
        | with_reducible first | refine it_pos rfl ?_ | refine it_neg (by decide) ?_ | refine st_nil rfl ?_ | refine s_op ?_ ?_ | exact True.intro
        | ((with_reducible first | refine dw_reg0 ?_ | refine dw_regB ?_); (conv => arg 3; whnf))
        | (refine Spl.go (fun hq he => ?_) (fun hq he => ?_) <;> first | (exfalso; clear hq; omega) | ((try (first | (conv => arg 8; simp only [hq]) | (conv => arg 4; simp only [hq]))); clear hq))
        | ((with_reducible first | refine c_split (fun hq => ?_) (fun hq => ?_) | refine q_split (fun hq => ?_) (fun hq => ?_)) <;> (try (first | (conv => arg 8; simp only [hq]) | (conv => arg 4; simp only [hq]))))
        | (with_reducible refine fin_0 ?_ (by first | rfl | (conv => lhs; simp only [go_sem])) ?_)
        | exact Sub.refl _
        | omega)
      refine fin_L [1000000] ?_ ?_ rfl ?_
      repeat' (first | (conv in hold _ => simp (disch := omega) only [go_sem, Nat.reduceEqDiff, Nat.reduceAdd, Nat.reduceMul, Nat.reduceSub, Nat.reduceLT, Nat.reduceLeDiff, ↓reduceIte, reduceCtorEq, Int.reduceToNat]) | exact True.intro | exact Sub.refl _ | omega)
      exact Sub.of_eq (by rw [place_none (upto_all (p := fun u => p u = false) hJ)])
theorem containsFuncR_ok (l : List Tr) (hl : l.length < 2000000) (f : FuncId) (hf : enters Try.prog f = true) (t : Int) (p : Tr → Bool) (h : ∀ x, x ∈ l → Does Try.prog f [.obj [I t]] [trD x, .ref 1000000 0] (Bo (p x)) [.obj [I t]]) : Does Try.prog 26 [.obj [I t]] [trsD l, .fn f [.ref 1000000 0]] (Bo (l.any p)) [.obj [I t]] := by
  have h1 := indexFuncR_ok l hl f hf t p h
  have h2 := place_pos p l
  refine does c_slices_ContainsFunc___loop_example_queryoptimizer_impl_Atom_loop_example_queryoptimizer_impl_Atom_ mixed (Nat.le_of_ble_eq_true rfl) 1 rfl ?_
  conv => arg 3; whnf
  repeat' (first
    | with_reducible refine acc_none ?_
    | (conv in hold _ => simp (disch := omega) only [go_sem, Nat.reduceEqDiff, Nat.reduceAdd, Nat.reduceMul, Nat.reduceSub, Nat.reduceLT, Nat.reduceLeDiff, ↓reduceIte, reduceCtorEq, Int.reduceToNat])
    | refine Stp.go ?_
    | with_reducible first | refine it_pos rfl ?_ | refine it_neg (by decide) ?_ | refine st_nil rfl ?_ | refine s_op ?_ ?_ | exact True.intro
    | ((with_reducible first | refine dw_reg0 ?_ | refine dw_regB ?_); (conv => arg 3; whnf))
    | (refine Spl.go (fun hq he => ?_) (fun hq he => ?_) <;> first | (exfalso; clear hq; omega) | ((try (first | (conv => arg 8; simp only [hq]) | (conv => arg 4; simp only [hq]))); clear hq))
    | ((with_reducible first | refine c_split (fun hq => ?_) (fun hq => ?_) | refine q_split (fun hq => ?_) (fun hq => ?_)) <;> (try (first | (conv => arg 8; simp only [hq]) | (conv => arg 4; simp only [hq]))))
    | (with_reducible refine fin_0 ?_ (by first | rfl | (conv => lhs; simp only [go_sem])) ?_)
    | exact Sub.refl _
    | omega)
  refine c_doesR [1000000] (h1) (callOK_of rfl (Nat.le_of_ble_eq_true rfl) rfl ?_ ?_) ?_ ?_
  · repeat' (first | (conv in hold _ => simp (disch := omega) only [go_sem, Nat.reduceEqDiff, Nat.reduceAdd, Nat.reduceMul, Nat.reduceSub, Nat.reduceLT, Nat.reduceLeDiff, ↓reduceIte, reduceCtorEq, Int.reduceToNat]) | exact True.intro | exact Sub.refl _ | omega)
  · repeat' (first | (conv in hold _ => simp (disch := omega) only [go_sem, Nat.reduceEqDiff, Nat.reduceAdd, Nat.reduceMul, Nat.reduceSub, Nat.reduceLT, Nat.reduceLeDiff, ↓reduceIte, reduceCtorEq, Int.reduceToNat]) | exact True.intro | exact Sub.refl _ | omega)
  · ((conv => rhs; simp (disch := omega) only [go_sem, Nat.reduceEqDiff, Nat.reduceAdd, Nat.reduceMul, Nat.reduceSub, Nat.reduceLT, Nat.reduceLeDiff, ↓reduceIte, reduceCtorEq, Int.reduceToNat]); try rfl)
  repeat' (first
    | with_reducible refine acc_none ?_
    | (conv in hold _ => simp (disch := omega) only [go_sem, Nat.reduceEqDiff, Nat.reduceAdd, Nat.reduceMul, Nat.reduceSub, Nat.reduceLT, Nat.reduceLeDiff, ↓reduceIte, reduceCtorEq, Int.reduceToNat])
    | refine Stp.go ?_
    | with_reducible first | refine it_pos rfl ?_ | refine it_neg (by decide) ?_ | refine st_nil rfl ?_ | refine s_op ?_ ?_ | exact True.intro
    | ((with_reducible first | refine dw_reg0 ?_ | refine dw_regB ?_); (conv => arg 3; whnf))
    | (refine Spl.go (fun hq he => ?_) (fun hq he => ?_) <;> first | (exfalso; clear hq; omega) | ((try (first | (conv => arg 8; simp only [hq]) | (conv => arg 4; simp only [hq]))); clear hq))
    | ((with_reducible first | refine c_split (fun hq => ?_) (fun hq => ?_) | refine q_split (fun hq => ?_) (fun hq => ?_)) <;> (try (first | (conv => arg 8; simp only [hq]) | (conv => arg 4; simp only [hq]))))
    | (with_reducible refine fin_0 ?_ (by first | rfl | (conv => lhs; simp only [go_sem])) ?_)
    | exact Sub.refl _
    | omega)
  have h3 : decide (0 ≤ place p l) = l.any p := by
    rw [Bool.eq_iff_iff, decide_eq_true_iff]
    exact h2
  refine fin_L [1000000] ?_ ?_ rfl ?_
  repeat' (first | (conv in hold _ => simp (disch := omega) only [go_sem, Nat.reduceEqDiff, Nat.reduceAdd, Nat.reduceMul, Nat.reduceSub, Nat.reduceLT, Nat.reduceLeDiff, ↓reduceIte, reduceCtorEq, Int.reduceToNat]) | exact True.intro | exact Sub.refl _ | omega)
  rw [h3]
  exact Sub.refl _
theorem hasIt_ok (x : Tr) (t : Int) : Does Try.prog 27 [.obj [I t]] [trD x, .ref 1000000 0] (Bo (x.x == t || x.y == t)) [.obj [I t]] := by
  refine does c_impl_ValidRule_1 mixed (Nat.le_of_ble_eq_true rfl) 1 rfl ?_
  conv => arg 3; whnf
  repeat' (first
    | with_reducible refine acc_none ?_
    | (conv in hold _ => simp (disch := omega) only [go_sem, Nat.reduceEqDiff, Nat.reduceAdd, Nat.reduceMul, Nat.reduceSub, Nat.reduceLT, Nat.reduceLeDiff, ↓reduceIte, reduceCtorEq, Int.reduceToNat])
    | refine Stp.go ?_
    | with_reducible first | refine it_pos rfl ?_ | refine it_neg (by decide) ?_ | refine st_nil rfl ?_ | refine s_op ?_ ?_ | exact True.intro
    | ((with_reducible first | refine dw_reg0 ?_ | refine dw_regB ?_); (conv => arg 3; whnf))
    | (refine Spl.go (fun hq he => ?_) (fun hq he => ?_) <;> first | (exfalso; clear hq; omega) | ((try (first | (conv => arg 8; simp only [hq]) | (conv => arg 4; simp only [hq]))); clear hq))
    | ((with_reducible first | refine c_split (fun hq => ?_) (fun hq => ?_) | refine q_split (fun hq => ?_) (fun hq => ?_)) <;> (try (first | (conv => arg 8; simp only [hq]) | (conv => arg 4; simp only [hq]))))
    | (with_reducible refine fin_0 ?_ (by first | rfl | (conv => lhs; simp only [go_sem])) ?_)
    | exact Sub.refl _
    | omega)
  all_goals
    refine fin_L [1000000] ?_ ?_ rfl ?_
    repeat' (first | (conv in hold _ => simp (disch := omega) only [go_sem, Nat.reduceEqDiff, Nat.reduceAdd, Nat.reduceMul, Nat.reduceSub, Nat.reduceLT, Nat.reduceLeDiff, ↓reduceIte, reduceCtorEq, Int.reduceToNat]) | exact True.intro | exact Sub.refl _ | omega)
  all_goals exact Sub.of_eq (by simp [he])
theorem validRelation_ok (n : Int) : Does Try.prog 24 [] [I n] (Bo (decide (0 ≤ n ∧ n ≤ 3))) [] := by
  refine does0 c_impl_validRelation mixed (Nat.le_of_ble_eq_true rfl) ?_
  conv => arg 3; whnf
  repeat' (first
    | with_reducible refine acc_none ?_
    | (conv in hold _ => simp (disch := omega) only [go_sem, Nat.reduceEqDiff, Nat.reduceAdd, Nat.reduceMul, Nat.reduceSub, Nat.reduceLT, Nat.reduceLeDiff, ↓reduceIte, reduceCtorEq, Int.reduceToNat])
    | refine Stp.go ?_
    | with_reducible first | refine it_pos rfl ?_ | refine it_neg (by decide) ?_ | refine st_nil rfl ?_ | refine s_op ?_ ?_ | exact True.intro
    | ((with_reducible first | refine dw_reg0 ?_ | refine dw_regB ?_); (conv => arg 3; whnf))
    | (refine Spl.go (fun hq he => ?_) (fun hq he => ?_) <;> first | (exfalso; clear hq; omega) | ((try (first | (conv => arg 8; simp only [hq]) | (conv => arg 4; simp only [hq]))); clear hq))
    | ((with_reducible first | refine c_split (fun hq => ?_) (fun hq => ?_) | refine q_split (fun hq => ?_) (fun hq => ?_)) <;> (try (first | (conv => arg 8; simp only [hq]) | (conv => arg 4; simp only [hq]))))
    | (with_reducible refine fin_0 ?_ (by first | rfl | (conv => lhs; simp only [go_sem])) ?_)
    | exact Sub.refl _
    | omega)
  · exact sub_iff (by simp [he])
  · exact sub_f (fun h => he h.1)
theorem hasVariable_ok (q : Ru) (n : Int) (_h0 : 1 ≤ q.n ∧ q.n ≤ 6) : Does Try.prog 25 [] [ruD q, I n] (Bo (decide (0 ≤ n ∧ n ≤ q.n - 1))) [] := by
  refine does0 c_impl_Rule_hasVariable mixed (Nat.le_of_ble_eq_true rfl) ?_
  conv => arg 3; whnf
  repeat' (first
    | with_reducible refine acc_none ?_
    | (conv in hold _ => simp (disch := omega) only [go_sem, Nat.reduceEqDiff, Nat.reduceAdd, Nat.reduceMul, Nat.reduceSub, Nat.reduceLT, Nat.reduceLeDiff, ↓reduceIte, reduceCtorEq, Int.reduceToNat])
    | refine Stp.go ?_
    | with_reducible first | refine it_pos rfl ?_ | refine it_neg (by decide) ?_ | refine st_nil rfl ?_ | refine s_op ?_ ?_ | exact True.intro
    | ((with_reducible first | refine dw_reg0 ?_ | refine dw_regB ?_); (conv => arg 3; whnf))
    | (refine Spl.go (fun hq he => ?_) (fun hq he => ?_) <;> first | (exfalso; clear hq; omega) | ((try (first | (conv => arg 8; simp only [hq]) | (conv => arg 4; simp only [hq]))); clear hq))
    | ((with_reducible first | refine c_split (fun hq => ?_) (fun hq => ?_) | refine q_split (fun hq => ?_) (fun hq => ?_)) <;> (try (first | (conv => arg 8; simp only [hq]) | (conv => arg 4; simp only [hq]))))
    | (with_reducible refine fin_0 ?_ (by first | rfl | (conv => lhs; simp only [go_sem])) ?_)
    | exact Sub.refl _
    | omega)
  · exact sub_iff (by rw [decide_eq_true_iff]; omega)
  · exact sub_f (fun h => he h.1)
theorem relation_t {n : Int} (h : 0 ≤ n ∧ n ≤ 3) : Does Try.prog 24 [] [I n] (Bo true) [] := by
  have := validRelation_ok n
  rwa [decide_eq_true h] at this
theorem relation_f {n : Int} (h : ¬ (0 ≤ n ∧ n ≤ 3)) : Does Try.prog 24 [] [I n] (Bo false) [] := by
  have := validRelation_ok n
  rwa [decide_eq_false h] at this
theorem variable_t {q : Ru} {n : Int} (h0 : 1 ≤ q.n ∧ q.n ≤ 6) (h : 0 ≤ n ∧ n ≤ q.n - 1) : Does Try.prog 25 [] [ruD q, I n] (Bo true) [] := by
  have := hasVariable_ok q n h0
  rwa [decide_eq_true h] at this
theorem variable_f {q : Ru} {n : Int} (h0 : 1 ≤ q.n ∧ q.n ≤ 6) (h : ¬ (0 ≤ n ∧ n ≤ q.n - 1)) : Does Try.prog 25 [] [ruD q, I n] (Bo false) [] := by
  have := hasVariable_ok q n h0
  rwa [decide_eq_false h] at this
theorem has_ok (l : List Tr) (hl : l.length < 2000000) (t : Int) : Does Try.prog 26 [.obj [I t]] [trsD l, .fn 27 [.ref 1000000 0]] (Bo (occ l t)) [.obj [I t]] :=
  containsFuncR_ok l hl 27 (by kernel_rfl) t (fun x => x.x == t || x.y == t) (fun x _ => hasIt_ok x t)
end Go.Proofs.Ytenbhgkfbjfocaa
