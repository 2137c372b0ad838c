/-
  The columns of expressions in the program. No condition.
-/
import Derived.Test.YtclkehekhdfnnaaDca
import Derived.Test.YtclkehekhdfnnaaDcb
import Derived.Test.YtclkehekhdfnnaaVSize
set_option maxHeartbeats 4000000
set_option maxRecDepth 100000
namespace Go.Proofs.Ytclkehekhdfnnaa
open Go.RowKit

/-- Six marks. -/
def useL (u : Nat → Bool) : List D := (List.range 6).map fun j => Bo (u j)
theorem useL_get {u : Nat → Bool} {i : Nat} (h : i < 6) : (useL u)[i]? = some (Bo (u i)) := by
  unfold useL
  rw [List.getElem?_map, List.getElem?_range h]
  rfl
theorem useL_len (u : Nat → Bool) : (useL u).length = 6 := by unfold useL; rw [List.length_map, List.length_range]
theorem useL_take (u : Nat → Bool) : (useL u).take 6 = useL u := List.take_of_length_le (by rw [useL_len]; exact Nat.le_refl 6)
theorem useL_set {u : Nat → Bool} {i : Nat} {b : Bool} (h : i < 6) : (useL u).set i (Bo b) = useL fun j => if j = i then b else u j := by
  apply List.ext_getElem?
  intro j
  by_cases hj : j < 6
  · rw [useL_get hj, List.getElem?_set, useL_len, useL_get hj]
    by_cases e : i = j
    · subst e; rw [if_pos rfl, if_pos h, if_pos rfl]
    · rw [if_neg e, if_neg (fun e' => e e'.symm)]
  · rw [List.getElem?_eq_none (by rw [List.length_set, useL_len]; omega), List.getElem?_eq_none (by rw [useL_len]; omega)]
theorem useL_pur (u : Nat → Bool) : D.purL (useL u) = true := by rfl
theorem useL_ren (L : List Nat) (u : Nat → Bool) : D.renL L (useL u) = useL u := ren_pure.renL_pure L _ (useL_pur u)
attribute [go_sem] Nat.mul_one useL_get useL_len useL_take useL_set useL_pur useL_ren
mutual
/-- Whether a column occurs. -/
def occ : E → Nat → Bool
  | .mk k c _ ks, i => (k == 1 && c == (i : Int)) || occL ks i
def occL : List E → Nat → Bool
  | [], _ => false
  | e :: l, i => occ e i || occL l i
end
theorem occ_eq (e : E) (i : Nat) : occ e i = ((e.k == 1 && e.c == (i : Int)) || occL e.ks i) := by cases e; rfl
theorem occL_append : ∀ (l m : List E) (i : Nat), occL (l ++ m) i = (occL l i || occL m i)
  | [], m, i => by rw [List.nil_append, occL, Bool.false_or]
  | e :: l, m, i => by rw [List.cons_append, occL, occL, occL_append l m i, Bool.or_assoc]
theorem occL_next {es : List E} {i : Nat} {x : E} (h : es[i]? = some x) (j : Nat) : occL (es.take (i + 1)) j = (occL (es.take i) j || occ x j) := by
  rw [take_next h, occL_append, occL, occL, Bool.or_false]
/-- The marks behind the kids ahead of i; and behind the first m columns of the next. -/
def upto (e : E) (i : Nat) : Nat → Bool := fun j => (e.k == 1 && e.c == (j : Int)) || occL (e.ks.take i) j
def inner (e : E) (i : Nat) (x : E) (m : Nat) : Nat → Bool := fun j => upto e i j || (decide (j < m) && occ x j)
theorem inner_zero (e : E) (i : Nat) (x : E) : inner e i x 0 = upto e i := by
  funext j
  simp [inner]
theorem inner_end {e : E} {i : Nat} {x : E} (h : e.ks[i]? = some x) : useL (inner e i x 6) = useL (upto e (i + 1)) := by
  unfold useL
  refine List.map_congr_left (fun j hj => ?_)
  have : j < 6 := List.mem_range.1 hj
  simp [inner, upto, occL_next h, this, Bool.or_assoc]
theorem inner_next (e : E) (i : Nat) (x : E) (m : Nat) : (fun j => if j = m then (inner e i x m m || occ x m) else inner e i x m j) = inner e i x (m + 1) := by
  funext j
  by_cases h : j = m
  · subst h; simp [inner]
  · simp only [h, if_false, inner]
    have : decide (j < m + 1) = decide (j < m) := by congr 1; exact propext (by omega)
    rw [this]
theorem usedColumns_ok : ∀ (e : E) (d : Nat), eOk e 6 d → Does Try.prog 35 [] [eD e] (.agg (useL (occ e))) [] := by
  refine E.ind (fun e ih d h => ?_)
  have hl := ((eOk_iff e _ d).1 h).2.2.2
  have hkid := ((eOk_iff e _ d).1 h).2.2.1
  have hn2 := kidsN_le e.k
  have hlen := ((eOk_iff e _ d).1 h).1
  have hc : e.k = 1 → 0 ≤ e.c ∧ e.c ≤ 5 := fun hk => by
    unfold leafOk at hl
    rw [if_pos hk] at hl
    omega
  have h0 : e.k = 1 → useL (fun j => if j = e.c.toNat then true else false) = useL (upto e 0) := fun hk => by
    have := hc hk
    unfold useL
    refine List.map_congr_left (fun j _ => ?_)
    have e1 : (e.c == (j : Int)) = decide (j = e.c.toNat) := by
      rw [Bool.eq_iff_iff, beq_iff_eq, decide_eq_true_iff]
      omega
    simp only [upto, hk, e1, occL, List.take_zero, beq_self_eq_true, Bool.true_and, Bool.or_false]
    by_cases hj : j = e.c.toNat <;> simp [hj]
  have h1 : ¬ e.k = 1 → useL (fun _ => false) = useL (upto e 0) := fun hk => by
    unfold useL
    refine List.map_congr_left (fun j _ => ?_)
    simp [upto, hk, occL]
  have hend : useL (upto e e.ks.length) = useL (occ e) := by
    unfold useL
    refine List.map_congr_left (fun j _ => ?_)
    rw [upto, List.take_length, occ_eq]
  have hz : ∀ b : Bool, [D.v (.bool b), D.v (.bool b), D.v (.bool b), D.v (.bool b), D.v (.bool b), D.v (.bool b)] = useL (fun _ => b) := fun b => rfl
  refine does0 c_impl_usedColumns mixed (Nat.le_of_ble_eq_true rfl) ?_
  conv => arg 3; whnf
  repeat' (first | with_reducible refine acc_none ?_ | (conv in hold _ => simp (disch := omega) only [go_sem, hz]) | refine Stp.go ?_ | (with_reducible first | refine it_pos rfl ?_ | refine it_neg (by decide) ?_ | refine st_nil rfl ?_ | refine s_op ?_ ?_ | exact True.intro) | ((with_reducible first | refine dw_reg0 ?_ | refine dw_regB ?_); (conv => arg 3; whnf)) | (refine Spl.go (fun hq he => ?_) (fun hq he => ?_) <;> first | (exfalso; clear hq; omega) | ((try (first | (conv => arg 8; simp only [hq]) | (conv => arg 4; simp only [hq]))); clear hq)) | ((with_reducible first | refine c_split (fun hq => ?_) (fun hq => ?_) | refine q_split (fun hq => ?_) (fun hq => ?_)) <;> (try (first | (conv => arg 8; simp only [hq]) | (conv => arg 4; simp only [hq])))) | (with_reducible refine fin_0 ?_ (by first | rfl | (conv => lhs; simp only [go_sem, hz])) ?_) | exact Sub.refl _ | omega)
  all_goals
    refine dw_for (c := 2) (l := fun i => [(2, .ref 1000000 0), (3, .ref 1000001 0), (15, .sl 5 (e.ks.map eD)), (16, I e.ks.length), (17, I i), (1000000, .obj (useL fun _ => false)), (1000001, .obj (useL (upto e i)))]) e.ks.length (fun _ => True) 0 trivial (Wk.list [2000002, 2000003] rfl rfl ?_) (fun i hi _ => ?_) (Nat.zero_le _)
    · repeat' (first | (conv in hold _ => simp (disch := omega) only [go_sem, hz]) | exact True.intro | exact Sub.refl _ | omega)
      first | exact ⟨rfl, congrArg D.obj (h0 he)⟩ | exact ⟨rfl, congrArg D.obj (h1 he)⟩
    · rcases at_or_end hi with ⟨x, hx, hlt⟩ | rfl
      · have hox := ih x (List.mem_of_getElem? hx) (d - 1) (hkid x (List.mem_of_getElem? hx))
        repeat' (first | with_reducible refine acc_none ?_ | (conv in hold _ => simp (disch := omega) only [go_sem, hz, List.getElem?_map, hx, Option.map_some]) | refine Stp.go ?_ | (with_reducible first | refine it_pos rfl ?_ | refine it_neg (by decide) ?_ | refine st_nil rfl ?_ | refine s_op ?_ ?_ | exact True.intro) | ((with_reducible first | refine dw_reg0 ?_ | refine dw_regB ?_); (conv => arg 3; whnf)) | (refine Spl.go (fun hq he => ?_) (fun hq he => ?_) <;> first | (exfalso; clear hq; omega) | ((try (first | (conv => arg 8; simp only [hq]) | (conv => arg 4; simp only [hq]))); clear hq)) | ((with_reducible first | refine c_split (fun hq => ?_) (fun hq => ?_) | refine q_split (fun hq => ?_) (fun hq => ?_)) <;> (try (first | (conv => arg 8; simp only [hq]) | (conv => arg 4; simp only [hq])))) | (with_reducible refine fin_0 ?_ (by first | rfl | (conv => lhs; simp only [go_sem, hz, List.getElem?_map, hx, Option.map_some])) ?_) | exact Sub.refl _ | omega)
        refine c_doesE (hox) ?_ ?_ ?_
        · ((try (conv => rhs; simp (disch := omega) only [go_sem, hz, useL_pur])); try rfl)
        · first | rfl | (conv => lhs; simp only [go_sem, hz, useL_pur])
        repeat' (first | with_reducible refine acc_none ?_ | (conv in hold _ => simp (disch := omega) only [go_sem, hz, useL_pur]) | refine Stp.go ?_ | (with_reducible first | refine it_pos rfl ?_ | refine it_neg (by decide) ?_ | refine st_nil rfl ?_ | refine s_op ?_ ?_ | exact True.intro) | ((with_reducible first | refine dw_reg0 ?_ | refine dw_regB ?_); (conv => arg 3; whnf)) | (refine Spl.go (fun hq he => ?_) (fun hq he => ?_) <;> first | (exfalso; clear hq; omega) | ((try (first | (conv => arg 8; simp only [hq]) | (conv => arg 4; simp only [hq]))); clear hq)) | ((with_reducible first | refine c_split (fun hq => ?_) (fun hq => ?_) | refine q_split (fun hq => ?_) (fun hq => ?_)) <;> (try (first | (conv => arg 8; simp only [hq]) | (conv => arg 4; simp only [hq])))) | (with_reducible refine fin_0 ?_ (by first | rfl | (conv => lhs; simp only [go_sem, hz, useL_pur])) ?_) | exact Sub.refl _ | omega)
        refine dw_for (c := 2) (l := fun m => [(2, .ref 1000000 0), (3, .ref 1000001 0), (15, .sl 5 (e.ks.map eD)), (16, I e.ks.length), (17, I i), (22, .agg (useL (occ x))), (23, I m), (1000000, .obj (useL fun _ => false)), (1000001, .obj (useL (inner e i x m)))]) 6 (fun _ => True) 0 trivial (Wk.list [1000000, 1000001] rfl rfl ?_) (fun m hm _ => ?_) (Nat.zero_le _)
        · repeat' (first | (conv in hold _ => simp (disch := omega) only [go_sem, hz]) | exact True.intro | exact Sub.refl _ | omega)
          exact ⟨rfl, by rw [inner_zero]⟩
        · by_cases hm6 : m < 6
          · repeat' (first | with_reducible refine acc_none ?_ | (conv in hold _ => simp (disch := omega) only [go_sem, hz]) | refine Stp.go ?_ | (with_reducible first | refine it_pos rfl ?_ | refine it_neg (by decide) ?_ | refine st_nil rfl ?_ | refine s_op ?_ ?_ | exact True.intro) | ((with_reducible first | refine dw_reg0 ?_ | refine dw_regB ?_); (conv => arg 3; whnf)) | (refine Spl.go (fun hq he => ?_) (fun hq he => ?_) <;> first | (exfalso; clear hq; omega) | ((try (first | (conv => arg 8; simp only [hq]) | (conv => arg 4; simp only [hq]))); clear hq)) | ((with_reducible first | refine c_split (fun hq => ?_) (fun hq => ?_) | refine q_split (fun hq => ?_) (fun hq => ?_)) <;> (try (first | (conv => arg 8; simp only [hq]) | (conv => arg 4; simp only [hq])))) | (with_reducible refine fin_0 ?_ (by first | rfl | (conv => lhs; simp only [go_sem, hz])) ?_) | exact Sub.refl _ | omega)
            all_goals
              refine ⟨hm6, trivial, Wk.list [1000000, 1000001] rfl rfl ?_⟩
              repeat' (first | (conv in hold _ => simp (disch := omega) only [go_sem, hz]) | exact True.intro | exact Sub.refl _ | omega)
              rw [← inner_next, hq]
              try rfl
          · obtain rfl : m = 6 := by omega
            repeat' (first | with_reducible refine acc_none ?_ | (conv in hold _ => simp (disch := omega) only [go_sem, hz]) | refine Stp.go ?_ | (with_reducible first | refine it_pos rfl ?_ | refine it_neg (by decide) ?_ | refine st_nil rfl ?_ | refine s_op ?_ ?_ | exact True.intro) | ((with_reducible first | refine dw_reg0 ?_ | refine dw_regB ?_); (conv => arg 3; whnf)) | (refine Spl.go (fun hq he => ?_) (fun hq he => ?_) <;> first | (exfalso; clear hq; omega) | ((try (first | (conv => arg 8; simp only [hq]) | (conv => arg 4; simp only [hq]))); clear hq)) | ((with_reducible first | refine c_split (fun hq => ?_) (fun hq => ?_) | refine q_split (fun hq => ?_) (fun hq => ?_)) <;> (try (first | (conv => arg 8; simp only [hq]) | (conv => arg 4; simp only [hq])))) | (with_reducible refine fin_0 ?_ (by first | rfl | (conv => lhs; simp only [go_sem, hz])) ?_) | exact Sub.refl _ | omega)
            refine ⟨hlt, trivial, Wk.list [1000000, 1000001] rfl rfl ?_⟩
            repeat' (first | (conv in hold _ => simp (disch := omega) only [go_sem, hz]) | exact True.intro | exact Sub.refl _ | omega)
            rw [inner_end hx]
      · repeat' (first | with_reducible refine acc_none ?_ | (conv in hold _ => simp (disch := omega) only [go_sem, hz]) | refine Stp.go ?_ | (with_reducible first | refine it_pos rfl ?_ | refine it_neg (by decide) ?_ | refine st_nil rfl ?_ | refine s_op ?_ ?_ | exact True.intro) | ((with_reducible first | refine dw_reg0 ?_ | refine dw_regB ?_); (conv => arg 3; whnf)) | (refine Spl.go (fun hq he => ?_) (fun hq he => ?_) <;> first | (exfalso; clear hq; omega) | ((try (first | (conv => arg 8; simp only [hq]) | (conv => arg 4; simp only [hq]))); clear hq)) | ((with_reducible first | refine c_split (fun hq => ?_) (fun hq => ?_) | refine q_split (fun hq => ?_) (fun hq => ?_)) <;> (try (first | (conv => arg 8; simp only [hq]) | (conv => arg 4; simp only [hq])))) | (with_reducible refine fin_0 ?_ (by first | rfl | (conv => lhs; simp only [go_sem, hz])) ?_) | exact Sub.refl _ | omega)
        rw [hend]; exact Sub.refl _
end Go.Proofs.Ytclkehekhdfnnaa
