/-
  Rows are ordered; a place in an ordered list, found by halving; how many are equal. Plain lemmas.
-/
import Derived.Test.YtldkjccccjiihaaVTbX
import Derived.Test.YtldkjccccjiihaaVCmpR
set_option maxHeartbeats 4000000
set_option maxRecDepth 100000
set_option linter.unusedVariables false
set_option linter.unusedSimpArgs false
namespace Go.Proofs.Ytldkjccccjiihaa
open Go.RowKit

/-- The rows of a valid table ascend. -/
theorem tOk_le {t : Ta} (ht : tOk t) : ∀ (d i : Nat) (q r : List V), t.rows[i]? = some q → t.rows[i + d]? = some r → cmpR q r ≤ 0 := by
  intro d
  induction d with
  | zero =>
    intro i q r hq hr
    rw [Nat.add_zero, hq] at hr
    cases hr
    rw [cmpR_self]
    exact Int.le_refl 0
  | succ d ih =>
    intro i q r hq hr
    have hlt := (List.getElem?_eq_some_iff.1 hr).1
    have hm := List.getElem?_eq_getElem (l := t.rows) (i := i + d) (by omega)
    have h1 := ih i q _ hq hm
    have h2 := (ht.2 (i + (d + 1)) r hr).2 _ (by omega) (by rw [show i + (d + 1) - 1 = i + d by omega]; exact hm)
    have g1 := ht.2 i q hq
    have g2 := ht.2 (i + d) _ hm
    have g3 := ht.2 _ r hr
    exact (cmpR_trans q _ r (by have := g1.1.2; have := g2.1.2; omega) (by have := g3.1.2; have := g2.1.2; omega) g1.1.1.2 g2.1.1.2 g3.1.1.2 h1).1 h2
/-- How many are equal. -/
def cntE (row : List V) (l : List (List V)) : Nat := (l.filter fun r => cmpR r row == 0).length
theorem cntE_next {row : List V} {l : List (List V)} {i : Nat} {x : List V} (h : l[i]? = some x) : cntE row (l.take (i + 1)) = cntE row (l.take i) + if cmpR x row = 0 then 1 else 0 := by
  unfold cntE
  rw [take_next h, List.filter_append, List.length_append, List.filter_cons, List.filter_nil]
  by_cases e : cmpR x row = 0
  · rw [if_pos e, if_pos (by simpa using e)]; rfl
  · rw [if_neg e, if_neg (by simpa using e)]; rfl
theorem cntE_len (row : List V) (l : List (List V)) : cntE row l ≤ l.length := List.length_filter_le ..
theorem cntE_app (row : List V) (l m : List (List V)) : cntE row (l ++ m) = cntE row l + cntE row m := by unfold cntE; rw [List.filter_append, List.length_append]
theorem cntE_none {row : List V} {l : List (List V)} (h : ∀ r, r ∈ l → ¬ cmpR r row = 0) : cntE row l = 0 := by
  unfold cntE
  rw [List.length_eq_zero_iff, List.filter_eq_nil_iff]
  intro a ha
  simpa using h a ha
theorem cntE_all {row : List V} {l : List (List V)} (h : ∀ r, r ∈ l → cmpR r row = 0) : cntE row l = l.length := by
  unfold cntE
  rw [List.filter_eq_self.2 (fun a ha => by simpa using h a ha)]
/-- How many are equal, by two places. -/
theorem cntE_two {row : List V} {rs : List (List V)} {a b : Nat} (ha : a ≤ rs.length) (hb : b ≤ rs.length - a) (h1 : ∀ (j : Nat) (r : List V), j < a → rs[j]? = some r → cmpR r row < 0) (h2 : ∀ (j : Nat) (r : List V), a ≤ j → rs[j]? = some r → 0 ≤ cmpR r row)
    (h3 : ∀ (j : Nat) (r : List V), j < b → rs[a + j]? = some r → ¬ 0 < cmpR r row) (h4 : ∀ (j : Nat) (r : List V), b ≤ j → rs[a + j]? = some r → 0 < cmpR r row) : cntE row rs = b := by
  have e1 := List.take_append_drop a rs
  have e2 := List.take_append_drop b (rs.drop a)
  rw [← e1, cntE_app, ← e2, cntE_app, cntE_none (l := rs.take a), cntE_all (l := (rs.drop a).take b), cntE_none (l := (rs.drop a).drop b)]
  · rw [List.length_take, List.length_drop]; omega
  · intro r hr
    obtain ⟨j, hj⟩ := List.mem_iff_getElem?.1 hr
    rw [List.getElem?_drop, List.getElem?_drop] at hj
    have := h4 (b + j) r (by omega) hj
    omega
  · intro r hr
    obtain ⟨j, hj⟩ := List.mem_iff_getElem?.1 hr
    have hjl := (List.getElem?_eq_some_iff.1 hj).1
    rw [List.length_take] at hjl
    rw [List.getElem?_take_of_lt (by omega), List.getElem?_drop] at hj
    have := h3 j r (by omega) hj
    have := h2 (a + j) r (by omega) hj
    omega
  · intro r hr
    obtain ⟨j, hj⟩ := List.mem_iff_getElem?.1 hr
    have hjl := (List.getElem?_eq_some_iff.1 hj).1
    rw [List.length_take] at hjl
    rw [List.getElem?_take_of_lt (by omega)] at hj
    have := h1 j r (by omega) hj
    omega
end Go.Proofs.Ytldkjccccjiihaa
