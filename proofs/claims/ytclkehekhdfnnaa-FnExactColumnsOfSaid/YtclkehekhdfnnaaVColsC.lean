/-
  ColumnsOf of the model. No condition.
-/
import Derived.Test.YtclkehekhdfnnaaDca
import Derived.Test.YtclkehekhdfnnaaDcb
import Derived.Test.YtclkehekhdfnnaaVColsB
set_option maxHeartbeats 4000000
set_option maxRecDepth 100000
namespace Go.Proofs.Ytclkehekhdfnnaa
open Go.RowKit

def intL (l : List Nat) : List D := l.map fun j : Nat => I (j : Int)
theorem intL_app (A B : List Nat) : intL (A ++ B) = intL A ++ intL B := List.map_append
theorem intL_len (A : List Nat) : (intL A).length = A.length := List.length_map _
theorem intL_cons (a : Nat) (A : List Nat) : intL (a :: A) = I a :: intL A := rfl
theorem intL_nil : intL [] = [] := rfl
theorem intL_pur (l : List Nat) : D.purL (intL l) = true := nats_pur l
theorem intL_ren (L : List Nat) (l : List Nat) : D.renL L (intL l) = intL l := ren_pure.renL_pure L _ (intL_pur l)
theorem intL_get {A : List Nat} {k a : Nat} (h : A[k]? = some a) (B : List Nat) : (intL (A ++ B))[k]? = some (I a) := by
  unfold intL
  rw [List.getElem?_map, List.getElem?_append_left (List.getElem?_eq_some_iff.1 h).1, h]
  rfl
theorem intL_mid (A : List Nat) (b : Nat) (B : List Nat) : (intL (A ++ b :: B))[A.length]? = some (I b) := by
  unfold intL
  rw [List.getElem?_map, List.getElem?_append_right (Nat.le_refl _), Nat.sub_self]
  rfl
theorem intL_take (A B : List Nat) : (intL (A ++ B)).take A.length = intL A := by unfold intL; rw [← List.map_take, List.take_left']; rfl
theorem intL_drop (A B : List Nat) : (intL (A ++ B)).drop A.length = intL B := by unfold intL; rw [← List.map_drop, List.drop_left']; rfl
theorem intL_all (A B : List Nat) : (intL (A ++ B)).take (A.length + B.length) = intL (A ++ B) := List.take_of_length_le (by rw [intL_len, List.length_append]; exact Nat.le_refl _)
theorem intL_all1 (A : List Nat) : (intL A).take A.length = intL A := List.take_of_length_le (by rw [intL_len]; exact Nat.le_refl _)
attribute [go_sem] intL_len intL_pur intL_ren intL_mid intL_take intL_drop intL_all intL_all1
theorem intL_put (A B : List Nat) (n : Nat) : (intL A ++ [I n]).take (A.length + 1) ++ intL B = intL (A ++ n :: B) := by
  rw [List.take_of_length_le (by rw [List.length_append, intL_len]; exact Nat.le_refl _), List.append_assoc, intL_app]
  rfl
theorem intL_put0 (A : List Nat) (n : Nat) : (intL A ++ [I n]).take (A.length + 1) = intL (A ++ [n]) := by
  rw [List.take_of_length_le (by rw [List.length_append, intL_len]; exact Nat.le_refl _), intL_app]
  rfl
theorem intL_all2 (A B : List Nat) (b : Nat) : (intL (A ++ b :: B)).take (A.length + (B.length + 1)) = intL (A ++ b :: B) := intL_all A (b :: B)
theorem intL_drop0 (A : List Nat) : (intL A).drop A.length = [] := List.drop_eq_nil_of_le (by rw [intL_len]; exact Nat.le_refl _)
theorem intL_all3 (A : List Nat) (n : Nat) : (intL (A ++ [n])).take (A.length + 1) = intL (A ++ [n]) := intL_all A [n]
theorem intL_all4 (A B : List Nat) (n b : Nat) : (intL (A ++ n :: b :: B)).take (A.length + 1 + (B.length + 1)) = intL (A ++ n :: b :: B) := by
  have := intL_all A (n :: b :: B)
  rw [show A.length + (n :: b :: B).length = A.length + 1 + (B.length + 1) by simp only [List.length_cons]; omega] at this
  exact this
theorem addNumber_split (A B : List Nat) (n : Nat) (hA : ∀ a, a ∈ A → a < n) (hB : ∀ b, B.head? = some b → n ≤ b) (hlen : A.length + B.length < 1000) :
    Does Try.prog 47 [] [.sl 1 (intL (A ++ B)), I n] (.sl 1 (intL (if B.head? = some n then A ++ B else A ++ n :: B))) [] := by
  refine does0 c_spec_addNumber mixed (Nat.le_of_ble_eq_true rfl) ?_
  conv => arg 3; whnf
  repeat' (first | with_reducible refine acc_none ?_ | (conv in hold _ => simp (disch := omega) only [go_sem]) | refine Stp.go ?_ | (with_reducible first | refine it_pos rfl ?_ | refine it_neg (by decide) ?_ | refine st_nil rfl ?_ | refine s_op ?_ ?_ | exact True.intro) | ((with_reducible first | refine dw_reg0 ?_ | refine dw_regB ?_); (conv => arg 3; whnf)) | (refine Spl.go (fun hq he => ?_) (fun hq he => ?_) <;> first | (exfalso; clear hq; omega) | ((try (first | (conv => arg 8; simp only [hq]) | (conv => arg 4; simp only [hq]))); clear hq)) | ((with_reducible first | refine c_split (fun hq => ?_) (fun hq => ?_) | refine q_split (fun hq => ?_) (fun hq => ?_)) <;> (try (first | (conv => arg 8; simp only [hq]) | (conv => arg 4; simp only [hq])))) | (with_reducible refine fin_0 ?_ (by first | rfl | (conv => lhs; simp only [go_sem])) ?_) | exact Sub.refl _ | omega)
  refine dw_for (c := 0) (l := fun k => [(0, .sl 1 (intL (A ++ B))), (1, I n), (5, I k)]) A.length (fun _ => True) 0 trivial (Wk.list [] rfl rfl ?_) (fun k hk _ => ?_) (Nat.zero_le _)
  · repeat' (first | (conv in hold _ => simp (disch := omega) only [go_sem]) | exact True.intro | exact Sub.refl _ | omega)
    exact rfl
  · rcases at_or_end hk with ⟨a, ha, hlt⟩ | rfl
    · have hget := intL_get ha B
      have han := hA a (List.mem_of_getElem? ha)
      repeat' (first | with_reducible refine acc_none ?_ | (conv in hold _ => simp (disch := omega) only [go_sem, hget]) | refine Stp.go ?_ | (with_reducible first | refine it_pos rfl ?_ | refine it_neg (by decide) ?_ | refine st_nil rfl ?_ | refine s_op ?_ ?_ | exact True.intro) | ((with_reducible first | refine dw_reg0 ?_ | refine dw_regB ?_); (conv => arg 3; whnf)) | (refine Spl.go (fun hq he => ?_) (fun hq he => ?_) <;> first | (exfalso; clear hq; omega) | ((try (first | (conv => arg 8; simp only [hq]) | (conv => arg 4; simp only [hq]))); clear hq)) | ((with_reducible first | refine c_split (fun hq => ?_) (fun hq => ?_) | refine q_split (fun hq => ?_) (fun hq => ?_)) <;> (try (first | (conv => arg 8; simp only [hq]) | (conv => arg 4; simp only [hq])))) | (with_reducible refine fin_0 ?_ (by first | rfl | (conv => lhs; simp only [go_sem, hget])) ?_) | exact Sub.refl _ | omega)
      refine ⟨hlt, trivial, Wk.list [] rfl rfl ?_⟩
      repeat' (first | (conv in hold _ => simp (disch := omega) only [go_sem]) | exact True.intro | exact Sub.refl _ | omega)
    · cases B with
      | nil =>
        rw [if_neg (by simp)]
        repeat' (first | with_reducible refine acc_none ?_ | (conv in hold _ => simp (disch := omega) only [go_sem, intL_drop0, intL_put0, List.length_nil]) | refine Stp.go ?_ | (with_reducible first | refine it_pos rfl ?_ | refine it_neg (by decide) ?_ | refine st_nil rfl ?_ | refine s_op ?_ ?_ | exact True.intro) | ((with_reducible first | refine dw_reg0 ?_ | refine dw_regB ?_); (conv => arg 3; whnf)) | (refine Spl.go (fun hq he => ?_) (fun hq he => ?_) <;> first | (exfalso; clear hq; omega) | ((try (first | (conv => arg 8; simp only [hq]) | (conv => arg 4; simp only [hq]))); clear hq)) | ((with_reducible first | refine c_split (fun hq => ?_) (fun hq => ?_) | refine q_split (fun hq => ?_) (fun hq => ?_)) <;> (try (first | (conv => arg 8; simp only [hq]) | (conv => arg 4; simp only [hq])))) | exact Sub.refl _ | omega)
        refine fin_wk (wk_frz 4 2000047 (by decide) (by decide) rfl ?_) ?_
        rotate_left
        (conv in hold _ => simp (disch := omega) only [go_sem, intL_drop0, intL_put0, List.length_nil, intL_all3])
        · refine fin_L [] ?_ ?_ rfl ?_
          repeat' (first | (conv in hold _ => simp (disch := omega) only [go_sem, intL_drop0, intL_put0, List.length_nil]) | exact True.intro | exact Sub.refl _ | omega)
        · exact intL_pur _
      | cons b B =>
        have hb := hB b rfl
        rw [List.length_cons] at hlen
        by_cases e : b = n
        · rw [if_pos (by rw [e]; rfl)]
          repeat' (first | with_reducible refine acc_none ?_ | (conv in hold _ => simp (disch := omega) only [go_sem, intL_drop0, intL_put0, List.length_nil]) | refine Stp.go ?_ | (with_reducible first | refine it_pos rfl ?_ | refine it_neg (by decide) ?_ | refine st_nil rfl ?_ | refine s_op ?_ ?_ | exact True.intro) | ((with_reducible first | refine dw_reg0 ?_ | refine dw_regB ?_); (conv => arg 3; whnf)) | (refine Spl.go (fun hq he => ?_) (fun hq he => ?_) <;> first | (exfalso; clear hq; omega) | ((try (first | (conv => arg 8; simp only [hq]) | (conv => arg 4; simp only [hq]))); clear hq)) | ((with_reducible first | refine c_split (fun hq => ?_) (fun hq => ?_) | refine q_split (fun hq => ?_) (fun hq => ?_)) <;> (try (first | (conv => arg 8; simp only [hq]) | (conv => arg 4; simp only [hq])))) | (with_reducible refine fin_0 ?_ (by first | rfl | (conv => lhs; simp only [go_sem, intL_drop0, intL_put0, List.length_nil])) ?_) | exact Sub.refl _ | omega)
        · rw [if_neg (by simpa using e)]
          repeat' (first | with_reducible refine acc_none ?_ | (conv in hold _ => simp (disch := omega) only [go_sem, intL_all2, intL_put]) | refine Stp.go ?_ | (with_reducible first | refine it_pos rfl ?_ | refine it_neg (by decide) ?_ | refine st_nil rfl ?_ | refine s_op ?_ ?_ | exact True.intro) | ((with_reducible first | refine dw_reg0 ?_ | refine dw_regB ?_); (conv => arg 3; whnf)) | (refine Spl.go (fun hq he => ?_) (fun hq he => ?_) <;> first | (exfalso; clear hq; omega) | ((try (first | (conv => arg 8; simp only [hq]) | (conv => arg 4; simp only [hq]))); clear hq)) | ((with_reducible first | refine c_split (fun hq => ?_) (fun hq => ?_) | refine q_split (fun hq => ?_) (fun hq => ?_)) <;> (try (first | (conv => arg 8; simp only [hq]) | (conv => arg 4; simp only [hq])))) | exact Sub.refl _ | omega)
          refine fin_wk (wk_frz 4 2000047 (by decide) (by decide) rfl ?_) ?_
          rotate_left
          (conv in hold _ => simp (disch := omega) only [go_sem, intL_all2, intL_put, intL_all4])
          · refine fin_L [] ?_ ?_ rfl ?_
            repeat' (first | (conv in hold _ => simp (disch := omega) only [go_sem, intL_all2, intL_put]) | exact True.intro | exact Sub.refl _ | omega)
            rw [if_pos (by omega)]
            exact Sub.refl _
          · exact intL_pur _
/-- The columns below 6 around one of them. -/
theorem range_cut (c : Nat) (h : c < 6) : List.range 6 = List.range c ++ c :: List.range' (c + 1) (5 - c) := by
  match c, h with
  | 0, _ => rfl
  | 1, _ => rfl
  | 2, _ => rfl
  | 3, _ => rfl
  | 4, _ => rfl
  | 5, _ => rfl
theorem addNumber_ok (u : Nat → Bool) (c : Nat) (h : c < 6) : Does Try.prog 47 [] [.sl 1 (colsL u 6), I c] (.sl 1 (colsL (fun i => u i || i == c) 6)) [] := by
  have hm : ∀ v : Nat → Bool, marked v 6 = (List.range c).filter v ++ (c :: List.range' (c + 1) (5 - c)).filter v := fun v => by unfold marked; rw [range_cut c h, List.filter_append]
  have hA : ∀ a, a ∈ (List.range c).filter u → a < c := fun a ha => List.mem_range.1 (List.mem_filter.1 ha).1
  have hR : ∀ a, a ∈ List.range' (c + 1) (5 - c) → c < a := fun a ha => by have := List.mem_range'_1.1 ha; omega
  have hB : ∀ b, ((c :: List.range' (c + 1) (5 - c)).filter u).head? = some b → c ≤ b := fun b hb => by
    rcases List.mem_cons.1 (List.mem_filter.1 (List.mem_of_head? hb)).1 with rfl | hb
    · exact Nat.le_refl _
    · exact Nat.le_of_lt (hR b hb)
  have key := addNumber_split _ _ c hA hB (by rw [← List.length_append, ← hm]; have := marked_len u 6; omega)
  have hres : (if ((c :: List.range' (c + 1) (5 - c)).filter u).head? = some c then (List.range c).filter u ++ (c :: List.range' (c + 1) (5 - c)).filter u else (List.range c).filter u ++ c :: (c :: List.range' (c + 1) (5 - c)).filter u) = marked (fun i => u i || i == c) 6 := by
    by_cases hu : u c = true
    · have hu' : (fun i => u i || i == c) = u := funext fun i => by
        by_cases e : i = c
        · subst e; simp [hu]
        · simp [e]
      rw [hu', hm u, List.filter_cons, if_pos hu, List.head?_cons, if_pos rfl]
    · have hne : ¬ ((c :: List.range' (c + 1) (5 - c)).filter u).head? = some c := fun hb => by
        have := (List.mem_filter.1 (List.mem_of_head? hb)).2
        exact hu this
      rw [if_neg hne, hm, List.filter_cons, if_neg hu, List.filter_cons, if_pos (by simp)]
      have e1 : (List.range c).filter (fun i => u i || i == c) = (List.range c).filter u := List.filter_congr (fun i hi => by
        have := List.mem_range.1 hi
        have : ¬ i = c := by omega
        simp [this])
      have e2 : (List.range' (c + 1) (5 - c)).filter (fun i => u i || i == c) = (List.range' (c + 1) (5 - c)).filter u := List.filter_congr (fun i hi => by
        have := hR i hi
        have : ¬ i = c := by omega
        simp [this])
      rw [e1, e2]
  rw [hres, ← hm u] at key
  exact key
/-- The marks u, and those of e's kids ahead of i. -/
def also (u : Nat → Bool) (e : E) (i : Nat) : Nat → Bool := fun j => u j || ((e.k == 1 && e.c == (j : Int)) || occL (e.ks.take i) j)
theorem also_next {u : Nat → Bool} {e : E} {i : Nat} {x : E} (h : e.ks[i]? = some x) : (fun j => also u e i j || occ x j) = also u e (i + 1) := funext fun j => by
  unfold also
  rw [occL_next h, Bool.or_assoc, Bool.or_assoc]
theorem also_end (u : Nat → Bool) (e : E) : also u e e.ks.length = fun j => u j || occ e j := funext fun j => by
  unfold also
  rw [List.take_length, ← occ_eq]
theorem also_col {u : Nat → Bool} {e : E} (h : e.k = 1) (hc : 0 ≤ e.c) : (fun j => u j || j == e.c.toNat) = also u e 0 := funext fun j => by
  unfold also
  have e1 : (e.c == (j : Int)) = (j == e.c.toNat) := by
    rw [Bool.eq_iff_iff, beq_iff_eq, beq_iff_eq]
    omega
  rw [List.take_zero, occL, e1, h]
  simp
theorem also_not {u : Nat → Bool} {e : E} (h : ¬ e.k = 1) : u = also u e 0 := funext fun j => by
  unfold also
  rw [List.take_zero, occL]
  simp [h]
theorem addColumns_ok : ∀ (e : E) (d : Nat), eOk e 6 d → ∀ u : Nat → Bool, Does Try.prog 32 [] [.sl 1 (colsL u 6), eD e] (.sl 1 (colsL (fun j => u j || occ e j) 6)) [] := by
  refine E.ind (fun e ih d h u => ?_)
  have hl := ((eOk_iff e _ d).1 h).2.2.2
  have hkid := ((eOk_iff e _ d).1 h).2.2.1
  have hn2 := kidsN_le e.k
  have hlen := ((eOk_iff e _ d).1 h).1
  by_cases hk : e.k = 1
  · have hc : 0 ≤ e.c ∧ e.c ≤ 5 := by
      unfold leafOk at hl
      rw [if_pos hk] at hl
      omega
    have hnum := addNumber_ok u e.c.toNat (by omega)
    rw [show ((e.c.toNat : Nat) : Int) = e.c by omega, also_col hk hc.1] at hnum
    refine does0 c_spec_addColumns mixed (Nat.le_of_ble_eq_true rfl) ?_
    conv => arg 3; whnf
    repeat' (first | with_reducible refine acc_none ?_ | (conv in hold _ => simp (disch := omega) only [go_sem, intL_all2, intL_put]) | refine Stp.go ?_ | (with_reducible first | refine it_pos rfl ?_ | refine it_neg (by decide) ?_ | refine st_nil rfl ?_ | refine s_op ?_ ?_ | exact True.intro) | ((with_reducible first | refine dw_reg0 ?_ | refine dw_regB ?_); (conv => arg 3; whnf)) | (refine Spl.go (fun hq he => ?_) (fun hq he => ?_) <;> first | (exfalso; clear hq; omega) | ((try (first | (conv => arg 8; simp only [hq]) | (conv => arg 4; simp only [hq]))); clear hq)) | ((with_reducible first | refine c_split (fun hq => ?_) (fun hq => ?_) | refine q_split (fun hq => ?_) (fun hq => ?_)) <;> (try (first | (conv => arg 8; simp only [hq]) | (conv => arg 4; simp only [hq])))) | (with_reducible refine fin_0 ?_ (by first | rfl | (conv => lhs; simp only [go_sem, intL_all2, intL_put])) ?_) | exact Sub.refl _ | omega)
    refine c_doesE (hnum) ?_ ?_ ?_
    · ((try (conv => rhs; simp (disch := omega) only [go_sem, intL_all2, intL_put])); try rfl)
    · first | rfl | (conv => lhs; simp only [go_sem, intL_all2, intL_put])
    repeat' (first | with_reducible refine acc_none ?_ | (conv in hold _ => simp (disch := omega) only [go_sem, intL_all2, intL_put]) | refine Stp.go ?_ | (with_reducible first | refine it_pos rfl ?_ | refine it_neg (by decide) ?_ | refine st_nil rfl ?_ | refine s_op ?_ ?_ | exact True.intro) | ((with_reducible first | refine dw_reg0 ?_ | refine dw_regB ?_); (conv => arg 3; whnf)) | (refine Spl.go (fun hq he => ?_) (fun hq he => ?_) <;> first | (exfalso; clear hq; omega) | ((try (first | (conv => arg 8; simp only [hq]) | (conv => arg 4; simp only [hq]))); clear hq)) | ((with_reducible first | refine c_split (fun hq => ?_) (fun hq => ?_) | refine q_split (fun hq => ?_) (fun hq => ?_)) <;> (try (first | (conv => arg 8; simp only [hq]) | (conv => arg 4; simp only [hq])))) | (with_reducible refine fin_0 ?_ (by first | rfl | (conv => lhs; simp only [go_sem, intL_all2, intL_put])) ?_) | exact Sub.refl _ | omega)
    refine dw_for (c := 1) (l := fun i => [(0, .sl 1 (colsL (also u e i) 6)), (3, .ref 1000000 0), (5, I i), (1000000, .obj [I e.k, I e.c, Bo e.v.b, I e.v.n, .sl 5 (e.ks.map eD)])]) e.ks.length (fun _ => True) 0 trivial (Wk.list [2000003] rfl rfl ?_) (fun i hi _ => ?_) (Nat.zero_le _)
    · repeat' (first | (conv in hold _ => simp (disch := omega) only [go_sem, intL_all2, intL_put]) | exact True.intro | exact Sub.refl _ | omega)
      exact rfl
    · rcases at_or_end hi with ⟨x, hx, hlt⟩ | rfl
      · have hox := ih x (List.mem_of_getElem? hx) (d - 1) (hkid x (List.mem_of_getElem? hx)) (also u e i)
        repeat' (first | with_reducible refine acc_none ?_ | (conv in hold _ => simp (disch := omega) only [go_sem, intL_all2, intL_put, List.getElem?_map, hx, Option.map_some]) | refine Stp.go ?_ | (with_reducible first | refine it_pos rfl ?_ | refine it_neg (by decide) ?_ | refine st_nil rfl ?_ | refine s_op ?_ ?_ | exact True.intro) | ((with_reducible first | refine dw_reg0 ?_ | refine dw_regB ?_); (conv => arg 3; whnf)) | (refine Spl.go (fun hq he => ?_) (fun hq he => ?_) <;> first | (exfalso; clear hq; omega) | ((try (first | (conv => arg 8; simp only [hq]) | (conv => arg 4; simp only [hq]))); clear hq)) | ((with_reducible first | refine c_split (fun hq => ?_) (fun hq => ?_) | refine q_split (fun hq => ?_) (fun hq => ?_)) <;> (try (first | (conv => arg 8; simp only [hq]) | (conv => arg 4; simp only [hq])))) | (with_reducible refine fin_0 ?_ (by first | rfl | (conv => lhs; simp only [go_sem, intL_all2, intL_put, List.getElem?_map, hx, Option.map_some])) ?_) | exact Sub.refl _ | omega)
        refine c_doesE (hox) ?_ ?_ ?_
        · ((try (conv => rhs; simp (disch := omega) only [go_sem, intL_all2, intL_put])); try rfl)
        · first | rfl | (conv => lhs; simp only [go_sem, intL_all2, intL_put])
        repeat' (first | with_reducible refine acc_none ?_ | (conv in hold _ => simp (disch := omega) only [go_sem, intL_all2, intL_put]) | refine Stp.go ?_ | (with_reducible first | refine it_pos rfl ?_ | refine it_neg (by decide) ?_ | refine st_nil rfl ?_ | refine s_op ?_ ?_ | exact True.intro) | ((with_reducible first | refine dw_reg0 ?_ | refine dw_regB ?_); (conv => arg 3; whnf)) | (refine Spl.go (fun hq he => ?_) (fun hq he => ?_) <;> first | (exfalso; clear hq; omega) | ((try (first | (conv => arg 8; simp only [hq]) | (conv => arg 4; simp only [hq]))); clear hq)) | ((with_reducible first | refine c_split (fun hq => ?_) (fun hq => ?_) | refine q_split (fun hq => ?_) (fun hq => ?_)) <;> (try (first | (conv => arg 8; simp only [hq]) | (conv => arg 4; simp only [hq])))) | (with_reducible refine fin_0 ?_ (by first | rfl | (conv => lhs; simp only [go_sem, intL_all2, intL_put])) ?_) | exact Sub.refl _ | omega)
        refine ⟨hlt, trivial, Wk.list [1000000] rfl rfl ?_⟩
        repeat' (first | (conv in hold _ => simp (disch := omega) only [go_sem, intL_all2, intL_put]) | exact True.intro | exact Sub.refl _ | omega)
        rw [also_next hx]
      · repeat' (first | with_reducible refine acc_none ?_ | (conv in hold _ => simp (disch := omega) only [go_sem, intL_all2, intL_put]) | refine Stp.go ?_ | (with_reducible first | refine it_pos rfl ?_ | refine it_neg (by decide) ?_ | refine st_nil rfl ?_ | refine s_op ?_ ?_ | exact True.intro) | ((with_reducible first | refine dw_reg0 ?_ | refine dw_regB ?_); (conv => arg 3; whnf)) | (refine Spl.go (fun hq he => ?_) (fun hq he => ?_) <;> first | (exfalso; clear hq; omega) | ((try (first | (conv => arg 8; simp only [hq]) | (conv => arg 4; simp only [hq]))); clear hq)) | ((with_reducible first | refine c_split (fun hq => ?_) (fun hq => ?_) | refine q_split (fun hq => ?_) (fun hq => ?_)) <;> (try (first | (conv => arg 8; simp only [hq]) | (conv => arg 4; simp only [hq])))) | (with_reducible refine fin_0 ?_ (by first | rfl | (conv => lhs; simp only [go_sem, intL_all2, intL_put])) ?_) | exact Sub.refl _ | omega)
        rw [also_end]; exact Sub.refl _
  · refine does0 c_spec_addColumns mixed (Nat.le_of_ble_eq_true rfl) ?_
    conv => arg 3; whnf
    repeat' (first | with_reducible refine acc_none ?_ | (conv in hold _ => simp (disch := omega) only [go_sem, intL_all2, intL_put]) | refine Stp.go ?_ | (with_reducible first | refine it_pos rfl ?_ | refine it_neg (by decide) ?_ | refine st_nil rfl ?_ | refine s_op ?_ ?_ | exact True.intro) | ((with_reducible first | refine dw_reg0 ?_ | refine dw_regB ?_); (conv => arg 3; whnf)) | (refine Spl.go (fun hq he => ?_) (fun hq he => ?_) <;> first | (exfalso; clear hq; omega) | ((try (first | (conv => arg 8; simp only [hq]) | (conv => arg 4; simp only [hq]))); clear hq)) | ((with_reducible first | refine c_split (fun hq => ?_) (fun hq => ?_) | refine q_split (fun hq => ?_) (fun hq => ?_)) <;> (try (first | (conv => arg 8; simp only [hq]) | (conv => arg 4; simp only [hq])))) | (with_reducible refine fin_0 ?_ (by first | rfl | (conv => lhs; simp only [go_sem, intL_all2, intL_put])) ?_) | exact Sub.refl _ | omega)
    refine dw_for (c := 1) (l := fun i => [(0, .sl 1 (colsL (also u e i) 6)), (3, .ref 1000000 0), (5, I i), (1000000, .obj [I e.k, I e.c, Bo e.v.b, I e.v.n, .sl 5 (e.ks.map eD)])]) e.ks.length (fun _ => True) 0 trivial (Wk.list [2000003] rfl rfl ?_) (fun i hi _ => ?_) (Nat.zero_le _)
    · repeat' (first | (conv in hold _ => simp (disch := omega) only [go_sem, intL_all2, intL_put]) | exact True.intro | exact Sub.refl _ | omega)
      rw [← also_not hk]
      exact ⟨rfl, rfl⟩
    · rcases at_or_end hi with ⟨x, hx, hlt⟩ | rfl
      · have hox := ih x (List.mem_of_getElem? hx) (d - 1) (hkid x (List.mem_of_getElem? hx)) (also u e i)
        repeat' (first | with_reducible refine acc_none ?_ | (conv in hold _ => simp (disch := omega) only [go_sem, intL_all2, intL_put, List.getElem?_map, hx, Option.map_some]) | refine Stp.go ?_ | (with_reducible first | refine it_pos rfl ?_ | refine it_neg (by decide) ?_ | refine st_nil rfl ?_ | refine s_op ?_ ?_ | exact True.intro) | ((with_reducible first | refine dw_reg0 ?_ | refine dw_regB ?_); (conv => arg 3; whnf)) | (refine Spl.go (fun hq he => ?_) (fun hq he => ?_) <;> first | (exfalso; clear hq; omega) | ((try (first | (conv => arg 8; simp only [hq]) | (conv => arg 4; simp only [hq]))); clear hq)) | ((with_reducible first | refine c_split (fun hq => ?_) (fun hq => ?_) | refine q_split (fun hq => ?_) (fun hq => ?_)) <;> (try (first | (conv => arg 8; simp only [hq]) | (conv => arg 4; simp only [hq])))) | (with_reducible refine fin_0 ?_ (by first | rfl | (conv => lhs; simp only [go_sem, intL_all2, intL_put, List.getElem?_map, hx, Option.map_some])) ?_) | exact Sub.refl _ | omega)
        refine c_doesE (hox) ?_ ?_ ?_
        · ((try (conv => rhs; simp (disch := omega) only [go_sem, intL_all2, intL_put])); try rfl)
        · first | rfl | (conv => lhs; simp only [go_sem, intL_all2, intL_put])
        repeat' (first | with_reducible refine acc_none ?_ | (conv in hold _ => simp (disch := omega) only [go_sem, intL_all2, intL_put]) | refine Stp.go ?_ | (with_reducible first | refine it_pos rfl ?_ | refine it_neg (by decide) ?_ | refine st_nil rfl ?_ | refine s_op ?_ ?_ | exact True.intro) | ((with_reducible first | refine dw_reg0 ?_ | refine dw_regB ?_); (conv => arg 3; whnf)) | (refine Spl.go (fun hq he => ?_) (fun hq he => ?_) <;> first | (exfalso; clear hq; omega) | ((try (first | (conv => arg 8; simp only [hq]) | (conv => arg 4; simp only [hq]))); clear hq)) | ((with_reducible first | refine c_split (fun hq => ?_) (fun hq => ?_) | refine q_split (fun hq => ?_) (fun hq => ?_)) <;> (try (first | (conv => arg 8; simp only [hq]) | (conv => arg 4; simp only [hq])))) | (with_reducible refine fin_0 ?_ (by first | rfl | (conv => lhs; simp only [go_sem, intL_all2, intL_put])) ?_) | exact Sub.refl _ | omega)
        refine ⟨hlt, trivial, Wk.list [1000000] rfl rfl ?_⟩
        repeat' (first | (conv in hold _ => simp (disch := omega) only [go_sem, intL_all2, intL_put]) | exact True.intro | exact Sub.refl _ | omega)
        rw [also_next hx]
      · repeat' (first | with_reducible refine acc_none ?_ | (conv in hold _ => simp (disch := omega) only [go_sem, intL_all2, intL_put]) | refine Stp.go ?_ | (with_reducible first | refine it_pos rfl ?_ | refine it_neg (by decide) ?_ | refine st_nil rfl ?_ | refine s_op ?_ ?_ | exact True.intro) | ((with_reducible first | refine dw_reg0 ?_ | refine dw_regB ?_); (conv => arg 3; whnf)) | (refine Spl.go (fun hq he => ?_) (fun hq he => ?_) <;> first | (exfalso; clear hq; omega) | ((try (first | (conv => arg 8; simp only [hq]) | (conv => arg 4; simp only [hq]))); clear hq)) | ((with_reducible first | refine c_split (fun hq => ?_) (fun hq => ?_) | refine q_split (fun hq => ?_) (fun hq => ?_)) <;> (try (first | (conv => arg 8; simp only [hq]) | (conv => arg 4; simp only [hq])))) | (with_reducible refine fin_0 ?_ (by first | rfl | (conv => lhs; simp only [go_sem, intL_all2, intL_put])) ?_) | exact Sub.refl _ | omega)
        rw [also_end]; exact Sub.refl _
theorem ColumnsOf_spec (e : E) (h : eOk e 6 8) : Does Try.prog 9 [] [eD e] (.sl 1 (colsL (occ e) 6)) [] := by
  have hve := ValidExpr_ok e 6 (by decide)
  rw [decide_eq_true ⟨by decide, h⟩] at hve
  have hac : Does Try.prog 32 [] [.nul, eD e] (.sl 1 (colsL (occ e) 6)) [] := by
    have := addColumns_ok e 8 h (fun _ => false)
    rw [show colsL (fun _ => false) 6 = [] from rfl, show (fun j => false || occ e j) = occ e from funext fun j => Bool.false_or _] at this
    exact this.weak ⟨Sub.nul 1, Sub.refl _, trivial⟩ (Sub.refl _)
  refine does0 c_spec_ColumnsOf mixed (Nat.le_of_ble_eq_true rfl) ?_
  conv => arg 3; whnf
  repeat' (first | with_reducible refine acc_none ?_ | (conv in hold _ => simp (disch := omega) only [go_sem, intL_all2, intL_put]) | refine Stp.go ?_ | (with_reducible first | refine it_pos rfl ?_ | refine it_neg (by decide) ?_ | refine st_nil rfl ?_ | refine s_op ?_ ?_ | exact True.intro) | ((with_reducible first | refine dw_reg0 ?_ | refine dw_regB ?_); (conv => arg 3; whnf)) | (refine Spl.go (fun hq he => ?_) (fun hq he => ?_) <;> first | (exfalso; clear hq; omega) | ((try (first | (conv => arg 8; simp only [hq]) | (conv => arg 4; simp only [hq]))); clear hq)) | ((with_reducible first | refine c_split (fun hq => ?_) (fun hq => ?_) | refine q_split (fun hq => ?_) (fun hq => ?_)) <;> (try (first | (conv => arg 8; simp only [hq]) | (conv => arg 4; simp only [hq])))) | (with_reducible refine fin_0 ?_ (by first | rfl | (conv => lhs; simp only [go_sem, intL_all2, intL_put])) ?_) | exact Sub.refl _ | omega)
  refine c_doesE (hve) ?_ ?_ ?_
  · ((try (conv => rhs; simp (disch := omega) only [go_sem, intL_all2, intL_put])); try rfl)
  · first | rfl | (conv => lhs; simp only [go_sem, intL_all2, intL_put])
  repeat' (first | with_reducible refine acc_none ?_ | (conv in hold _ => simp (disch := omega) only [go_sem, intL_all2, intL_put]) | refine Stp.go ?_ | (with_reducible first | refine it_pos rfl ?_ | refine it_neg (by decide) ?_ | refine st_nil rfl ?_ | refine s_op ?_ ?_ | exact True.intro) | ((with_reducible first | refine dw_reg0 ?_ | refine dw_regB ?_); (conv => arg 3; whnf)) | (refine Spl.go (fun hq he => ?_) (fun hq he => ?_) <;> first | (exfalso; clear hq; omega) | ((try (first | (conv => arg 8; simp only [hq]) | (conv => arg 4; simp only [hq]))); clear hq)) | ((with_reducible first | refine c_split (fun hq => ?_) (fun hq => ?_) | refine q_split (fun hq => ?_) (fun hq => ?_)) <;> (try (first | (conv => arg 8; simp only [hq]) | (conv => arg 4; simp only [hq])))) | (with_reducible refine fin_0 ?_ (by first | rfl | (conv => lhs; simp only [go_sem, intL_all2, intL_put])) ?_) | exact Sub.refl _ | omega)
  refine c_doesE (hac) ?_ ?_ ?_
  · ((try (conv => rhs; simp (disch := omega) only [go_sem, intL_all2, intL_put])); try rfl)
  · first | rfl | (conv => lhs; simp only [go_sem, intL_all2, intL_put])
  repeat' (first | with_reducible refine acc_none ?_ | (conv in hold _ => simp (disch := omega) only [go_sem, intL_all2, intL_put]) | refine Stp.go ?_ | (with_reducible first | refine it_pos rfl ?_ | refine it_neg (by decide) ?_ | refine st_nil rfl ?_ | refine s_op ?_ ?_ | exact True.intro) | ((with_reducible first | refine dw_reg0 ?_ | refine dw_regB ?_); (conv => arg 3; whnf)) | (refine Spl.go (fun hq he => ?_) (fun hq he => ?_) <;> first | (exfalso; clear hq; omega) | ((try (first | (conv => arg 8; simp only [hq]) | (conv => arg 4; simp only [hq]))); clear hq)) | ((with_reducible first | refine c_split (fun hq => ?_) (fun hq => ?_) | refine q_split (fun hq => ?_) (fun hq => ?_)) <;> (try (first | (conv => arg 8; simp only [hq]) | (conv => arg 4; simp only [hq])))) | (with_reducible refine fin_0 ?_ (by first | rfl | (conv => lhs; simp only [go_sem, intL_all2, intL_put])) ?_) | exact Sub.refl _ | omega)
end Go.Proofs.Ytclkehekhdfnnaa
