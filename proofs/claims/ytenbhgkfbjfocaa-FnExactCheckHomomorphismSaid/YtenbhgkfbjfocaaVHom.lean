/-
  Frozen atoms in the model. No condition.
-/
import Derived.Test.YtenbhgkfbjfocaaVFa
set_option maxHeartbeats 4000000
set_option maxRecDepth 100000
namespace Go.Proofs.Ytenbhgkfbjfocaa
open Go.RowKit

theorem Tr.eq_iff (a b : Tr) : (a.r == b.r && (a.x == b.x && a.y == b.y)) = true ↔ a = b := by
  cases a; cases b
  simp
noncomputable instance trDec : DecidableEq Tr := fun a b => decidable_of_iff _ (Tr.eq_iff a b)
def trL (l : List Tr) : List D := l.map trD
theorem trL_app (A B : List Tr) : trL (A ++ B) = trL A ++ trL B := List.map_append
theorem trL_len (A : List Tr) : (trL A).length = A.length := List.length_map _
theorem trL_pur (l : List Tr) : D.purL (trL l) = true := trs_pur l
theorem trL_ren (L : List Nat) (l : List Tr) : D.renL L (trL l) = trL l := ren_pure.renL_pure L _ (trL_pur l)
theorem trL_get {A : List Tr} {k : Nat} {a : Tr} (h : A[k]? = some a) (B : List Tr) : (trL (A ++ B))[k]? = some (.agg [I a.r, I a.x, I a.y]) := by
  unfold trL
  rw [List.getElem?_map, List.getElem?_append_left (List.getElem?_eq_some_iff.1 h).1, h]
  rfl
theorem trL_mid (A : List Tr) (b : Tr) (B : List Tr) : (trL (A ++ b :: B))[A.length]? = some (.agg [I b.r, I b.x, I b.y]) := by
  unfold trL
  rw [List.getElem?_map, List.getElem?_append_right (Nat.le_refl _), Nat.sub_self]
  rfl
theorem trL_take (A B : List Tr) : (trL (A ++ B)).take A.length = trL A := by unfold trL; rw [← List.map_take, List.take_left']; rfl
theorem trL_drop (A B : List Tr) : (trL (A ++ B)).drop A.length = trL B := by unfold trL; rw [← List.map_drop, List.drop_left']; rfl
theorem trL_all (A B : List Tr) : (trL (A ++ B)).take (A.length + B.length) = trL (A ++ B) := List.take_of_length_le (by rw [trL_len, List.length_append]; exact Nat.le_refl _)
theorem trL_all1 (A : List Tr) : (trL A).take A.length = trL A := List.take_of_length_le (by rw [trL_len]; exact Nat.le_refl _)
attribute [go_sem] trL_len trL_pur trL_ren trL_mid trL_take trL_drop trL_all trL_all1
theorem trL_put (A B : List Tr) (n : Tr) : (trL A ++ [D.agg [I n.r, I n.x, I n.y]]).take (A.length + 1) ++ trL B = trL (A ++ n :: B) := by
  rw [List.take_of_length_le (by rw [List.length_append, trL_len]; exact Nat.le_refl _), List.append_assoc, trL_app]
  rfl
theorem trL_put0 (A : List Tr) (n : Tr) : (trL A ++ [D.agg [I n.r, I n.x, I n.y]]).take (A.length + 1) = trL (A ++ [n]) := by
  rw [List.take_of_length_le (by rw [List.length_append, trL_len]; exact Nat.le_refl _), trL_app]
  rfl
theorem trL_all2 (A B : List Tr) (b : Tr) : (trL (A ++ b :: B)).take (A.length + (B.length + 1)) = trL (A ++ b :: B) := trL_all A (b :: B)
theorem trL_drop0 (A : List Tr) : (trL A).drop A.length = [] := List.drop_eq_nil_of_le (by rw [trL_len]; exact Nat.le_refl _)
theorem trL_all3 (A : List Tr) (n : Tr) : (trL (A ++ [n])).take (A.length + 1) = trL (A ++ [n]) := trL_all A [n]
theorem trL_all4 (A B : List Tr) (n b : Tr) : (trL (A ++ n :: b :: B)).take (A.length + 1 + (B.length + 1)) = trL (A ++ n :: b :: B) := by
  have := trL_all A (n :: b :: B)
  rw [show A.length + (n :: b :: B).length = A.length + 1 + (B.length + 1) by simp only [List.length_cons]; omega] at this
  exact this
theorem less_t {a b : Tr} (h : fLt a b) : Does Try.prog 43 [] [.agg [I a.r, I a.x, I a.y], .agg [I b.r, I b.x, I b.y]] (Bo true) [] := by
  have := factLess_ok a b
  rwa [decide_eq_true h] at this
theorem less_f {a b : Tr} (h : ¬ fLt a b) : Does Try.prog 43 [] [.agg [I a.r, I a.x, I a.y], .agg [I b.r, I b.x, I b.y]] (Bo false) [] := by
  have := factLess_ok a b
  rwa [decide_eq_false h] at this
theorem addFact_split (A B : List Tr) (n : Tr) (hA : ∀ a, a ∈ A → fLt a n) (hB : ∀ b, B.head? = some b → ¬ fLt b n) (hlen : A.length + B.length < 1000) :
    Does Try.prog 52 [] [.sl 3 (trL (A ++ B)), .agg [I n.r, I n.x, I n.y]] (.sl 3 (trL (if B.head? = some n then A ++ B else A ++ n :: B))) [] := by
  refine does0 c_spec_addFact mixed (Nat.le_of_ble_eq_true rfl) ?_
  conv => arg 3; whnf
  repeat' (first
    | with_reducible refine acc_none ?_
    | (conv in hold _ => simp (disch := omega) only [go_sem, Nat.reduceEqDiff, Nat.reduceAdd, Nat.reduceMul, Nat.reduceSub, Nat.reduceLT, Nat.reduceLeDiff, ↓reduceIte, reduceCtorEq, Int.reduceToNat])
    | refine Stp.go ?_
    | with_reducible first | refine it_pos rfl ?_ | refine it_neg (by decide) ?_ | refine st_nil rfl ?_ | refine s_op ?_ ?_ | exact True.intro
    | ((with_reducible first | refine dw_reg0 ?_ | refine dw_regB ?_); (conv => arg 3; whnf))
    | (refine Spl.go (fun hq he => ?_) (fun hq he => ?_) <;> first | (exfalso; clear hq; omega) | ((try (first | (conv => arg 8; simp only [hq]) | (conv => arg 4; simp only [hq]))); clear hq))
    | ((with_reducible first | refine c_split (fun hq => ?_) (fun hq => ?_) | refine q_split (fun hq => ?_) (fun hq => ?_)) <;> (try (first | (conv => arg 8; simp only [hq]) | (conv => arg 4; simp only [hq]))))
    | (with_reducible refine fin_0 ?_ (by first | rfl | (conv => lhs; simp only [go_sem])) ?_)
    | exact Sub.refl _
    | omega)
  refine dw_for (c := 1) (l := fun k => [(0, .sl 3 (trL (A ++ B))), (3, .ref 1000000 0), (5, I k), (1000000, .obj [I n.r, I n.x, I n.y])]) A.length (fun _ => True) 0 trivial (Wk.list [2000003] rfl rfl ?_) (fun k hk _ => ?_) (Nat.zero_le _)
  · repeat' (first | (conv in hold _ => simp (disch := omega) only [go_sem, Nat.reduceEqDiff, Nat.reduceAdd, Nat.reduceMul, Nat.reduceSub, Nat.reduceLT, Nat.reduceLeDiff, ↓reduceIte, reduceCtorEq, Int.reduceToNat]) | exact True.intro | exact Sub.refl _ | omega)
    exact rfl
  · rcases at_or_end hk with ⟨a, ha, hlt⟩ | rfl
    · have hget := trL_get ha B
      have han := less_t (hA a (List.mem_of_getElem? ha))
      repeat' (first
        | with_reducible refine acc_none ?_
        | (conv in hold _ => simp (disch := omega) only [go_sem, Nat.reduceEqDiff, Nat.reduceAdd, Nat.reduceMul, Nat.reduceSub, Nat.reduceLT, Nat.reduceLeDiff, ↓reduceIte, reduceCtorEq, Int.reduceToNat, hget])
        | refine Stp.go ?_
        | with_reducible first | refine it_pos rfl ?_ | refine it_neg (by decide) ?_ | refine st_nil rfl ?_ | refine s_op ?_ ?_ | exact True.intro
        | ((with_reducible first | refine dw_reg0 ?_ | refine dw_regB ?_); (conv => arg 3; whnf))
        | (refine Spl.go (fun hq he => ?_) (fun hq he => ?_) <;> first | (exfalso; clear hq; omega) | ((try (first | (conv => arg 8; simp only [hq]) | (conv => arg 4; simp only [hq]))); clear hq))
        | ((with_reducible first | refine c_split (fun hq => ?_) (fun hq => ?_) | refine q_split (fun hq => ?_) (fun hq => ?_)) <;> (try (first | (conv => arg 8; simp only [hq]) | (conv => arg 4; simp only [hq]))))
        | (with_reducible refine fin_0 ?_ (by first | rfl | (conv => lhs; simp only [go_sem, hget])) ?_)
        | exact Sub.refl _
        | omega)
      refine c_doesE (han) ?_ ?_ ?_
      · ((try (conv => rhs; simp (disch := omega) only [go_sem, Nat.reduceEqDiff, Nat.reduceAdd, Nat.reduceMul, Nat.reduceSub, Nat.reduceLT, Nat.reduceLeDiff, ↓reduceIte, reduceCtorEq, Int.reduceToNat, hget])); try rfl)
      · first | rfl | (conv => lhs; simp only [go_sem, hget])
      repeat' (first
        | with_reducible refine acc_none ?_
        | (conv in hold _ => simp (disch := omega) only [go_sem, Nat.reduceEqDiff, Nat.reduceAdd, Nat.reduceMul, Nat.reduceSub, Nat.reduceLT, Nat.reduceLeDiff, ↓reduceIte, reduceCtorEq, Int.reduceToNat, hget])
        | refine Stp.go ?_
        | with_reducible first | refine it_pos rfl ?_ | refine it_neg (by decide) ?_ | refine st_nil rfl ?_ | refine s_op ?_ ?_ | exact True.intro
        | ((with_reducible first | refine dw_reg0 ?_ | refine dw_regB ?_); (conv => arg 3; whnf))
        | (refine Spl.go (fun hq he => ?_) (fun hq he => ?_) <;> first | (exfalso; clear hq; omega) | ((try (first | (conv => arg 8; simp only [hq]) | (conv => arg 4; simp only [hq]))); clear hq))
        | ((with_reducible first | refine c_split (fun hq => ?_) (fun hq => ?_) | refine q_split (fun hq => ?_) (fun hq => ?_)) <;> (try (first | (conv => arg 8; simp only [hq]) | (conv => arg 4; simp only [hq]))))
        | (with_reducible refine fin_0 ?_ (by first | rfl | (conv => lhs; simp only [go_sem, hget])) ?_)
        | exact Sub.refl _
        | omega)
      refine ⟨hlt, trivial, Wk.list [1000000] rfl rfl ?_⟩
      repeat' (first | (conv in hold _ => simp (disch := omega) only [go_sem, Nat.reduceEqDiff, Nat.reduceAdd, Nat.reduceMul, Nat.reduceSub, Nat.reduceLT, Nat.reduceLeDiff, ↓reduceIte, reduceCtorEq, Int.reduceToNat]) | exact True.intro | exact Sub.refl _ | omega)
    · cases B with
      | nil =>
        rw [if_neg (by simp)]
        repeat' (first
          | with_reducible refine acc_none ?_
          | (conv in hold _ => simp (disch := omega) only [go_sem, Nat.reduceEqDiff, Nat.reduceAdd, Nat.reduceMul, Nat.reduceSub, Nat.reduceLT, Nat.reduceLeDiff, ↓reduceIte, reduceCtorEq, Int.reduceToNat, trL_drop0, trL_put0, List.length_nil])
          | refine Stp.go ?_
          | with_reducible first | refine it_pos rfl ?_ | refine it_neg (by decide) ?_ | refine st_nil rfl ?_ | refine s_op ?_ ?_ | exact True.intro
          | ((with_reducible first | refine dw_reg0 ?_ | refine dw_regB ?_); (conv => arg 3; whnf))
          | (refine Spl.go (fun hq he => ?_) (fun hq he => ?_) <;> first | (exfalso; clear hq; omega) | ((try (first | (conv => arg 8; simp only [hq]) | (conv => arg 4; simp only [hq]))); clear hq))
          | ((with_reducible first | refine c_split (fun hq => ?_) (fun hq => ?_) | refine q_split (fun hq => ?_) (fun hq => ?_)) <;> (try (first | (conv => arg 8; simp only [hq]) | (conv => arg 4; simp only [hq]))))
          | exact Sub.refl _
          | omega)
        refine fin_wk (wk_frz 4 2000047 (by decide) (by decide) rfl ?_) ?_
        rotate_left
        (conv in hold _ => simp (disch := omega) only [go_sem, Nat.reduceEqDiff, Nat.reduceAdd, Nat.reduceMul, Nat.reduceSub, Nat.reduceLT, Nat.reduceLeDiff, ↓reduceIte, reduceCtorEq, Int.reduceToNat, trL_drop0, trL_put0, List.length_nil, trL_all3])
        · refine fin_L [] ?_ ?_ rfl ?_
          repeat' (first | (conv in hold _ => simp (disch := omega) only [go_sem, Nat.reduceEqDiff, Nat.reduceAdd, Nat.reduceMul, Nat.reduceSub, Nat.reduceLT, Nat.reduceLeDiff, ↓reduceIte, reduceCtorEq, Int.reduceToNat, trL_drop0, trL_put0, List.length_nil]) | exact True.intro | exact Sub.refl _ | omega)
        · exact trL_pur _
      | cons b B =>
        have hb := less_f (hB b rfl)
        rw [List.length_cons] at hlen
        by_cases e : b = n
        · rw [if_pos (by rw [e]; rfl)]
          subst e
          repeat' (first
            | with_reducible refine acc_none ?_
            | (conv in hold _ => simp (disch := omega) only [go_sem, Nat.reduceEqDiff, Nat.reduceAdd, Nat.reduceMul, Nat.reduceSub, Nat.reduceLT, Nat.reduceLeDiff, ↓reduceIte, reduceCtorEq, Int.reduceToNat, beq_self_eq_true, Bool.and_self])
            | refine Stp.go ?_
            | with_reducible first | refine it_pos rfl ?_ | refine it_neg (by decide) ?_ | refine st_nil rfl ?_ | refine s_op ?_ ?_ | exact True.intro
            | ((with_reducible first | refine dw_reg0 ?_ | refine dw_regB ?_); (conv => arg 3; whnf))
            | (refine Spl.go (fun hq he => ?_) (fun hq he => ?_) <;> first | (exfalso; clear hq; omega) | ((try (first | (conv => arg 8; simp only [hq]) | (conv => arg 4; simp only [hq]))); clear hq))
            | ((with_reducible first | refine c_split (fun hq => ?_) (fun hq => ?_) | refine q_split (fun hq => ?_) (fun hq => ?_)) <;> (try (first | (conv => arg 8; simp only [hq]) | (conv => arg 4; simp only [hq]))))
            | (with_reducible refine fin_0 ?_ (by first | rfl | (conv => lhs; simp only [go_sem, beq_self_eq_true, Bool.and_self])) ?_)
            | exact Sub.refl _
            | omega)
          refine c_doesE (hb) ?_ ?_ ?_
          · ((try (conv => rhs; simp (disch := omega) only [go_sem, Nat.reduceEqDiff, Nat.reduceAdd, Nat.reduceMul, Nat.reduceSub, Nat.reduceLT, Nat.reduceLeDiff, ↓reduceIte, reduceCtorEq, Int.reduceToNat, beq_self_eq_true, Bool.and_self])); try rfl)
          · first | rfl | (conv => lhs; simp only [go_sem, beq_self_eq_true, Bool.and_self])
          repeat' (first
            | with_reducible refine acc_none ?_
            | (conv in hold _ => simp (disch := omega) only [go_sem, Nat.reduceEqDiff, Nat.reduceAdd, Nat.reduceMul, Nat.reduceSub, Nat.reduceLT, Nat.reduceLeDiff, ↓reduceIte, reduceCtorEq, Int.reduceToNat, beq_self_eq_true, Bool.and_self])
            | refine Stp.go ?_
            | with_reducible first | refine it_pos rfl ?_ | refine it_neg (by decide) ?_ | refine st_nil rfl ?_ | refine s_op ?_ ?_ | exact True.intro
            | ((with_reducible first | refine dw_reg0 ?_ | refine dw_regB ?_); (conv => arg 3; whnf))
            | (refine Spl.go (fun hq he => ?_) (fun hq he => ?_) <;> first | (exfalso; clear hq; omega) | ((try (first | (conv => arg 8; simp only [hq]) | (conv => arg 4; simp only [hq]))); clear hq))
            | ((with_reducible first | refine c_split (fun hq => ?_) (fun hq => ?_) | refine q_split (fun hq => ?_) (fun hq => ?_)) <;> (try (first | (conv => arg 8; simp only [hq]) | (conv => arg 4; simp only [hq]))))
            | (with_reducible refine fin_0 ?_ (by first | rfl | (conv => lhs; simp only [go_sem, beq_self_eq_true, Bool.and_self])) ?_)
            | exact Sub.refl _
            | omega)
        · have hne : (b.r == n.r && (b.x == n.x && b.y == n.y)) = false := by
            rw [Bool.eq_false_iff]
            exact fun h => e ((Tr.eq_iff b n).1 h)
          rw [if_neg (by simpa using e)]
          repeat' (first
            | with_reducible refine acc_none ?_
            | (conv in hold _ => simp (disch := omega) only [go_sem, Nat.reduceEqDiff, Nat.reduceAdd, Nat.reduceMul, Nat.reduceSub, Nat.reduceLT, Nat.reduceLeDiff, ↓reduceIte, reduceCtorEq, Int.reduceToNat, trL_all2, trL_put, hne])
            | refine Stp.go ?_
            | with_reducible first | refine it_pos rfl ?_ | refine it_neg (by decide) ?_ | refine st_nil rfl ?_ | refine s_op ?_ ?_ | exact True.intro
            | ((with_reducible first | refine dw_reg0 ?_ | refine dw_regB ?_); (conv => arg 3; whnf))
            | (refine Spl.go (fun hq he => ?_) (fun hq he => ?_) <;> first | (exfalso; clear hq; omega) | ((try (first | (conv => arg 8; simp only [hq]) | (conv => arg 4; simp only [hq]))); clear hq))
            | ((with_reducible first | refine c_split (fun hq => ?_) (fun hq => ?_) | refine q_split (fun hq => ?_) (fun hq => ?_)) <;> (try (first | (conv => arg 8; simp only [hq]) | (conv => arg 4; simp only [hq]))))
            | exact Sub.refl _
            | omega)
          refine c_doesE (hb) ?_ ?_ ?_
          · ((try (conv => rhs; simp (disch := omega) only [go_sem, Nat.reduceEqDiff, Nat.reduceAdd, Nat.reduceMul, Nat.reduceSub, Nat.reduceLT, Nat.reduceLeDiff, ↓reduceIte, reduceCtorEq, Int.reduceToNat, trL_all2, trL_put, hne])); try rfl)
          · first | rfl | (conv => lhs; simp only [go_sem, trL_all2, trL_put, hne])
          repeat' (first
            | with_reducible refine acc_none ?_
            | (conv in hold _ => simp (disch := omega) only [go_sem, Nat.reduceEqDiff, Nat.reduceAdd, Nat.reduceMul, Nat.reduceSub, Nat.reduceLT, Nat.reduceLeDiff, ↓reduceIte, reduceCtorEq, Int.reduceToNat, trL_all2, trL_put, hne])
            | refine Stp.go ?_
            | with_reducible first | refine it_pos rfl ?_ | refine it_neg (by decide) ?_ | refine st_nil rfl ?_ | refine s_op ?_ ?_ | exact True.intro
            | ((with_reducible first | refine dw_reg0 ?_ | refine dw_regB ?_); (conv => arg 3; whnf))
            | (refine Spl.go (fun hq he => ?_) (fun hq he => ?_) <;> first | (exfalso; clear hq; omega) | ((try (first | (conv => arg 8; simp only [hq]) | (conv => arg 4; simp only [hq]))); clear hq))
            | ((with_reducible first | refine c_split (fun hq => ?_) (fun hq => ?_) | refine q_split (fun hq => ?_) (fun hq => ?_)) <;> (try (first | (conv => arg 8; simp only [hq]) | (conv => arg 4; simp only [hq]))))
            | exact Sub.refl _
            | omega)
          refine fin_wk (wk_frz 4 2000047 (by decide) (by decide) rfl ?_) ?_
          rotate_left
          (conv in hold _ => simp (disch := omega) only [go_sem, Nat.reduceEqDiff, Nat.reduceAdd, Nat.reduceMul, Nat.reduceSub, Nat.reduceLT, Nat.reduceLeDiff, ↓reduceIte, reduceCtorEq, Int.reduceToNat, trL_all2, trL_put, hne, trL_all4])
          · refine fin_L [] ?_ ?_ rfl ?_
            repeat' (first | (conv in hold _ => simp (disch := omega) only [go_sem, Nat.reduceEqDiff, Nat.reduceAdd, Nat.reduceMul, Nat.reduceSub, Nat.reduceLT, Nat.reduceLeDiff, ↓reduceIte, reduceCtorEq, Int.reduceToNat, trL_all2, trL_put, hne]) | exact True.intro | exact Sub.refl _ | omega)
            rw [if_pos (by omega)]
            exact Sub.refl _
          · exact trL_pur _
/-- A fact is put into its place. -/
noncomputable def insF (l : List Tr) (n : Tr) : List Tr :=
  if (l.dropWhile fun a => decide (fLt a n)).head? = some n then l else (l.takeWhile fun a => decide (fLt a n)) ++ n :: l.dropWhile fun a => decide (fLt a n)
theorem mem_insF {l : List Tr} {n x : Tr} : x ∈ insF l n ↔ x ∈ l ∨ x = n := by
  have h := List.takeWhile_append_dropWhile (p := fun a => decide (fLt a n)) (l := l)
  unfold insF
  generalize l.takeWhile (fun a => decide (fLt a n)) = A at h ⊢
  generalize l.dropWhile (fun a => decide (fLt a n)) = B at h ⊢
  subst h
  split
  · rename_i hB
    refine ⟨Or.inl, fun h => h.elim id fun e => ?_⟩
    subst e
    exact List.mem_append_right _ (List.mem_of_mem_head? hB)
  · simp only [List.mem_append, List.mem_cons]
    exact ⟨fun h => h.elim (fun h => Or.inl (Or.inl h)) (fun h => h.elim Or.inr (fun h => Or.inl (Or.inr h))), fun h => h.elim (fun h => h.elim Or.inl (fun h => Or.inr (Or.inr h))) (fun h => Or.inr (Or.inl h))⟩
theorem insF_len (l : List Tr) (n : Tr) : (insF l n).length ≤ l.length + 1 := by
  have h := List.takeWhile_append_dropWhile (p := fun a => decide (fLt a n)) (l := l)
  unfold insF
  generalize l.takeWhile (fun a => decide (fLt a n)) = A at h ⊢
  generalize l.dropWhile (fun a => decide (fLt a n)) = B at h ⊢
  subst h
  split
  · omega
  · simp only [List.length_append, List.length_cons]
    omega
theorem addFact_ok (l : List Tr) (n : Tr) (hlen : l.length < 1000) : Does Try.prog 52 [] [trsD l, trD n] (trsD (insF l n)) [] := by
  have h := List.takeWhile_append_dropWhile (p := fun a => decide (fLt a n)) (l := l)
  have hA : ∀ a, a ∈ l.takeWhile (fun a => decide (fLt a n)) → fLt a n := fun a ha => of_decide_eq_true (List.all_eq_true.1 (List.all_takeWhile (p := fun a => decide (fLt a n)) (l := l)) a ha)
  have hB : ∀ b, (l.dropWhile fun a => decide (fLt a n)).head? = some b → ¬ fLt b n := fun b hb => by
    have := List.head?_dropWhile_not (fun a => decide (fLt a n)) l
    rw [hb] at this
    simpa using this
  have hs := addFact_split _ _ n hA hB (by rw [← List.length_append, h]; exact hlen)
  rw [h] at hs
  exact hs
/-- The frozen atoms. -/
noncomputable def frz (b : List Tr) : List Tr := b.foldl insF []
theorem frz_next {b : List Tr} {i : Nat} {x : Tr} (h : b[i]? = some x) : frz (b.take (i + 1)) = insF (frz (b.take i)) x := by
  unfold frz
  rw [take_next h, List.foldl_append]
  rfl
theorem mem_foldF : ∀ (b l : List Tr) (x : Tr), x ∈ b.foldl insF l ↔ x ∈ l ∨ x ∈ b
  | [], l, x => by simp
  | n :: b, l, x => by
    rw [List.foldl_cons, mem_foldF b, mem_insF, List.mem_cons, or_assoc]
theorem mem_frz (b : List Tr) (x : Tr) : x ∈ frz b ↔ x ∈ b := by
  unfold frz
  rw [mem_foldF]
  simp
theorem foldF_len : ∀ (b l : List Tr), (b.foldl insF l).length ≤ l.length + b.length
  | [], l => Nat.le_refl _
  | n :: b, l => by
    have h1 := foldF_len b (insF l n)
    have h2 := insF_len l n
    rw [List.foldl_cons, List.length_cons]
    omega
theorem frz_len (b : List Tr) : (frz b).length ≤ b.length := by
  have := foldF_len b []
  unfold frz
  simpa using this
theorem freeze_ok (q : Ru) (hb : q.b.length < 1000) : Does Try.prog 46 [] [ruD q] (trsD (frz q.b)) [] := by
  refine does0 c_spec_freeze mixed (Nat.le_of_ble_eq_true rfl) ?_
  conv => arg 3; whnf
  repeat' (first
    | with_reducible refine acc_none ?_
    | (conv in hold _ => simp (disch := omega) only [go_sem, Nat.reduceEqDiff, Nat.reduceAdd, Nat.reduceMul, Nat.reduceSub, Nat.reduceLT, Nat.reduceLeDiff, ↓reduceIte, reduceCtorEq, Int.reduceToNat])
    | refine Stp.go ?_
    | with_reducible first | refine it_pos rfl ?_ | refine it_neg (by decide) ?_ | refine st_nil rfl ?_ | refine s_op ?_ ?_ | exact True.intro
    | ((with_reducible first | refine dw_reg0 ?_ | refine dw_regB ?_); (conv => arg 3; whnf))
    | (refine Spl.go (fun hq he => ?_) (fun hq he => ?_) <;> first | (exfalso; clear hq; omega) | ((try (first | (conv => arg 8; simp only [hq]) | (conv => arg 4; simp only [hq]))); clear hq))
    | ((with_reducible first | refine c_split (fun hq => ?_) (fun hq => ?_) | refine q_split (fun hq => ?_) (fun hq => ?_)) <;> (try (first | (conv => arg 8; simp only [hq]) | (conv => arg 4; simp only [hq]))))
    | (with_reducible refine fin_0 ?_ (by first | rfl | (conv => lhs; simp only [go_sem])) ?_)
    | exact Sub.refl _
    | omega)
  refine dw_for (c := 1) (l := fun i => [(1, .ref 1000000 0), (3, trsD (frz (q.b.take i))), (4, I i), (1000000, .obj [I q.n, intsD q.h, trsD q.b])]) q.b.length (fun _ => True) 0 trivial ((wk_nul 3 3 (by decide) rfl).trans (Wk.list [2000001] rfl rfl ?_)) (fun i hi _ => ?_) (Nat.zero_le _)
  · repeat' (first | (conv in hold _ => simp (disch := omega) only [go_sem, Nat.reduceEqDiff, Nat.reduceAdd, Nat.reduceMul, Nat.reduceSub, Nat.reduceLT, Nat.reduceLeDiff, ↓reduceIte, reduceCtorEq, Int.reduceToNat]) | exact True.intro | exact Sub.refl _ | omega)
    exact ⟨rfl, rfl⟩
  · rcases at_or_end hi with ⟨x, hx, hlt⟩ | rfl
    · have hle := frz_len (q.b.take i)
      rw [List.length_take] at hle
      have hadd := addFact_ok (frz (q.b.take i)) x (by omega)
      have hnx := frz_next hx
      repeat' (first
        | with_reducible refine acc_none ?_
        | (conv in hold _ => simp (disch := omega) only [go_sem, Nat.reduceEqDiff, Nat.reduceAdd, Nat.reduceMul, Nat.reduceSub, Nat.reduceLT, Nat.reduceLeDiff, ↓reduceIte, reduceCtorEq, Int.reduceToNat, List.getElem?_map, hx, Option.map_some])
        | refine Stp.go ?_
        | with_reducible first | refine it_pos rfl ?_ | refine it_neg (by decide) ?_ | refine st_nil rfl ?_ | refine s_op ?_ ?_ | exact True.intro
        | ((with_reducible first | refine dw_reg0 ?_ | refine dw_regB ?_); (conv => arg 3; whnf))
        | (refine Spl.go (fun hq he => ?_) (fun hq he => ?_) <;> first | (exfalso; clear hq; omega) | ((try (first | (conv => arg 8; simp only [hq]) | (conv => arg 4; simp only [hq]))); clear hq))
        | ((with_reducible first | refine c_split (fun hq => ?_) (fun hq => ?_) | refine q_split (fun hq => ?_) (fun hq => ?_)) <;> (try (first | (conv => arg 8; simp only [hq]) | (conv => arg 4; simp only [hq]))))
        | (with_reducible refine fin_0 ?_ (by first | rfl | (conv => lhs; simp only [go_sem, List.getElem?_map, hx, Option.map_some])) ?_)
        | exact Sub.refl _
        | omega)
      refine c_doesE (hadd) ?_ ?_ ?_
      · ((try (conv => rhs; simp (disch := omega) only [go_sem, Nat.reduceEqDiff, Nat.reduceAdd, Nat.reduceMul, Nat.reduceSub, Nat.reduceLT, Nat.reduceLeDiff, ↓reduceIte, reduceCtorEq, Int.reduceToNat])); try rfl)
      · first | rfl | (conv => lhs; simp only [go_sem])
      repeat' (first
        | with_reducible refine acc_none ?_
        | (conv in hold _ => simp (disch := omega) only [go_sem, Nat.reduceEqDiff, Nat.reduceAdd, Nat.reduceMul, Nat.reduceSub, Nat.reduceLT, Nat.reduceLeDiff, ↓reduceIte, reduceCtorEq, Int.reduceToNat])
        | refine Stp.go ?_
        | with_reducible first | refine it_pos rfl ?_ | refine it_neg (by decide) ?_ | refine st_nil rfl ?_ | refine s_op ?_ ?_ | exact True.intro
        | ((with_reducible first | refine dw_reg0 ?_ | refine dw_regB ?_); (conv => arg 3; whnf))
        | (refine Spl.go (fun hq he => ?_) (fun hq he => ?_) <;> first | (exfalso; clear hq; omega) | ((try (first | (conv => arg 8; simp only [hq]) | (conv => arg 4; simp only [hq]))); clear hq))
        | ((with_reducible first | refine c_split (fun hq => ?_) (fun hq => ?_) | refine q_split (fun hq => ?_) (fun hq => ?_)) <;> (try (first | (conv => arg 8; simp only [hq]) | (conv => arg 4; simp only [hq]))))
        | (with_reducible refine fin_0 ?_ (by first | rfl | (conv => lhs; simp only [go_sem])) ?_)
        | exact Sub.refl _
        | omega)
      refine ⟨hlt, trivial, Wk.list [1000000] rfl rfl ?_⟩
      repeat' (first | (conv in hold _ => simp (disch := omega) only [go_sem, Nat.reduceEqDiff, Nat.reduceAdd, Nat.reduceMul, Nat.reduceSub, Nat.reduceLT, Nat.reduceLeDiff, ↓reduceIte, reduceCtorEq, Int.reduceToNat, hnx]) | exact True.intro | exact Sub.refl _ | omega)
    · have e1 : q.b.take q.b.length = q.b := List.take_length
      repeat' (first
        | with_reducible refine acc_none ?_
        | (conv in hold _ => simp (disch := omega) only [go_sem, Nat.reduceEqDiff, Nat.reduceAdd, Nat.reduceMul, Nat.reduceSub, Nat.reduceLT, Nat.reduceLeDiff, ↓reduceIte, reduceCtorEq, Int.reduceToNat, e1])
        | refine Stp.go ?_
        | with_reducible first | refine it_pos rfl ?_ | refine it_neg (by decide) ?_ | refine st_nil rfl ?_ | refine s_op ?_ ?_ | exact True.intro
        | ((with_reducible first | refine dw_reg0 ?_ | refine dw_regB ?_); (conv => arg 3; whnf))
        | (refine Spl.go (fun hq he => ?_) (fun hq he => ?_) <;> first | (exfalso; clear hq; omega) | ((try (first | (conv => arg 8; simp only [hq]) | (conv => arg 4; simp only [hq]))); clear hq))
        | ((with_reducible first | refine c_split (fun hq => ?_) (fun hq => ?_) | refine q_split (fun hq => ?_) (fun hq => ?_)) <;> (try (first | (conv => arg 8; simp only [hq]) | (conv => arg 4; simp only [hq]))))
        | (with_reducible refine fin_0 ?_ (by first | rfl | (conv => lhs; simp only [go_sem, e1])) ?_)
        | exact Sub.refl _
        | omega)
theorem hasFact_ok (l : List Tr) (hl : l.length ≤ 1048576) (t : Tr) : Does Try.prog 47 [] [trsD l, trD t] (Bo (decide (t ∈ l))) [] := by
  refine does0 c_spec_hasFact mixed (Nat.le_of_ble_eq_true rfl) ?_
  conv => arg 3; whnf
  repeat' (first
    | with_reducible refine acc_none ?_
    | (conv in hold _ => simp (disch := omega) only [go_sem, Nat.reduceEqDiff, Nat.reduceAdd, Nat.reduceMul, Nat.reduceSub, Nat.reduceLT, Nat.reduceLeDiff, ↓reduceIte, reduceCtorEq, Int.reduceToNat])
    | refine Stp.go ?_
    | with_reducible first | refine it_pos rfl ?_ | refine it_neg (by decide) ?_ | refine st_nil rfl ?_ | refine s_op ?_ ?_ | exact True.intro
    | ((with_reducible first | refine dw_reg0 ?_ | refine dw_regB ?_); (conv => arg 3; whnf))
    | (refine Spl.go (fun hq he => ?_) (fun hq he => ?_) <;> first | (exfalso; clear hq; omega) | ((try (first | (conv => arg 8; simp only [hq]) | (conv => arg 4; simp only [hq]))); clear hq))
    | ((with_reducible first | refine c_split (fun hq => ?_) (fun hq => ?_) | refine q_split (fun hq => ?_) (fun hq => ?_)) <;> (try (first | (conv => arg 8; simp only [hq]) | (conv => arg 4; simp only [hq]))))
    | (with_reducible refine fin_0 ?_ (by first | rfl | (conv => lhs; simp only [go_sem])) ?_)
    | exact Sub.refl _
    | omega)
  refine dw_for (c := 1) (l := fun i => [(0, trsD l), (3, .ref 1000000 0), (5, I i), (1000000, .obj [I t.r, I t.x, I t.y])]) l.length (fun i => ∀ (j : Nat) (u : Tr), j < i → l[j]? = some u → u ≠ t) 0 (by omega) (Wk.list [2000003] rfl rfl ?_) (fun i hi hJ => ?_) (Nat.zero_le _)
  · repeat' (first | (conv in hold _ => simp (disch := omega) only [go_sem, Nat.reduceEqDiff, Nat.reduceAdd, Nat.reduceMul, Nat.reduceSub, Nat.reduceLT, Nat.reduceLeDiff, ↓reduceIte, reduceCtorEq, Int.reduceToNat]) | exact True.intro | exact Sub.refl _ | omega)
    exact rfl
  · rcases at_or_end hi with ⟨x, hx, hlt⟩ | rfl
    · have hm := List.mem_of_getElem? hx
      repeat' (first
        | with_reducible refine acc_none ?_
        | (conv in hold _ => simp (disch := omega) only [go_sem, Nat.reduceEqDiff, Nat.reduceAdd, Nat.reduceMul, Nat.reduceSub, Nat.reduceLT, Nat.reduceLeDiff, ↓reduceIte, reduceCtorEq, Int.reduceToNat, List.getElem?_map, hx, Option.map_some])
        | refine Stp.go ?_
        | with_reducible first | refine it_pos rfl ?_ | refine it_neg (by decide) ?_ | refine st_nil rfl ?_ | refine s_op ?_ ?_ | exact True.intro
        | ((with_reducible first | refine dw_reg0 ?_ | refine dw_regB ?_); (conv => arg 3; whnf))
        | (refine Spl.go (fun hq he => ?_) (fun hq he => ?_) <;> first | (exfalso; clear hq; omega) | ((try (first | (conv => arg 8; simp only [hq]) | (conv => arg 4; simp only [hq]))); clear hq))
        | ((with_reducible first | refine c_split (fun hq => ?_) (fun hq => ?_) | refine q_split (fun hq => ?_) (fun hq => ?_)) <;> (try (first | (conv => arg 8; simp only [hq]) | (conv => arg 4; simp only [hq]))))
        | (with_reducible refine fin_0 ?_ (by first | rfl | (conv => lhs; simp only [go_sem, List.getElem?_map, hx, Option.map_some])) ?_)
        | exact Sub.refl _
        | omega)
      · exact sub_t (by rw [← (Tr.eq_iff x t).1 hq]; exact hm)
      · refine ⟨hlt, upto_next (p := fun u : Tr => u ≠ t) hx hJ (fun h => by rw [(Tr.eq_iff x t).2 h] at hq; cases hq), Wk.list [1000000] rfl rfl ?_⟩
        repeat' (first | (conv in hold _ => simp (disch := omega) only [go_sem, Nat.reduceEqDiff, Nat.reduceAdd, Nat.reduceMul, Nat.reduceSub, Nat.reduceLT, Nat.reduceLeDiff, ↓reduceIte, reduceCtorEq, Int.reduceToNat]) | exact True.intro | exact Sub.refl _ | omega)
    · repeat' (first
        | with_reducible refine acc_none ?_
        | (conv in hold _ => simp (disch := omega) only [go_sem, Nat.reduceEqDiff, Nat.reduceAdd, Nat.reduceMul, Nat.reduceSub, Nat.reduceLT, Nat.reduceLeDiff, ↓reduceIte, reduceCtorEq, Int.reduceToNat])
        | refine Stp.go ?_
        | with_reducible first | refine it_pos rfl ?_ | refine it_neg (by decide) ?_ | refine st_nil rfl ?_ | refine s_op ?_ ?_ | exact True.intro
        | ((with_reducible first | refine dw_reg0 ?_ | refine dw_regB ?_); (conv => arg 3; whnf))
        | (refine Spl.go (fun hq he => ?_) (fun hq he => ?_) <;> first | (exfalso; clear hq; omega) | ((try (first | (conv => arg 8; simp only [hq]) | (conv => arg 4; simp only [hq]))); clear hq))
        | ((with_reducible first | refine c_split (fun hq => ?_) (fun hq => ?_) | refine q_split (fun hq => ?_) (fun hq => ?_)) <;> (try (first | (conv => arg 8; simp only [hq]) | (conv => arg 4; simp only [hq]))))
        | (with_reducible refine fin_0 ?_ (by first | rfl | (conv => lhs; simp only [go_sem])) ?_)
        | exact Sub.refl _
        | omega)
      exact sub_f (fun h => upto_all (p := fun u : Tr => u ≠ t) hJ t h rfl)
end Go.Proofs.Ytenbhgkfbjfocaa
