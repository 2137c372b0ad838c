/-
  Rows are ordered; a place in an ordered list, found by halving; how many are equal. Plain lemmas.
-/
import Derived.Test.YtcnijpepnjenjaaVTbX
set_option maxHeartbeats 4000000
set_option maxRecDepth 100000
set_option linter.unusedVariables false
set_option linter.unusedSimpArgs false
namespace Go.Proofs.Ytcnijpepnjenjaa
open Go.RowKit

def keyV (v : V) : Int := if v.b = true then -10000 else v.n
theorem cmpV_key {a b : V} (ha : a.ok) (hb : b.ok) : (cmpV a b = 0 ∧ keyV a = keyV b) ∨ (cmpV a b = -1 ∧ keyV a < keyV b) ∨ (cmpV a b = 1 ∧ keyV b < keyV a) := by
  have h1 := ha.nul
  have h2 := hb.nul
  have h3 := ha.lo
  have h4 := hb.lo
  unfold cmpV keyV
  cases hab : a.b <;> cases hbb : b.b <;> simp [hab, hbb] at h1 h2 ⊢
  all_goals (repeat' split) <;> omega
theorem cmpR_trans : ∀ (a b c : List V), a.length = b.length → b.length = c.length → (∀ v, v ∈ a → v.ok) → (∀ v, v ∈ b → v.ok) → (∀ v, v ∈ c → v.ok) → cmpR a b ≤ 0 → (cmpR b c ≤ 0 → cmpR a c ≤ 0) ∧ (cmpR b c < 0 → cmpR a c < 0)
  | [], [], [], _, _, _, _, _, _ => ⟨fun h => h, fun h => h⟩
  | [], [], _ :: _, _, h, _, _, _, _ => by simp at h
  | [], _ :: _, _, h, _, _, _, _, _ => by simp at h
  | _ :: _, [], _, h, _, _, _, _, _ => by simp at h
  | _ :: _, _ :: _, [], _, h, _, _, _, _ => by simp at h
  | x :: a, y :: b, z :: c, h, h', ha, hb, hc, hab => by
    have hx := ha x (List.mem_cons_self ..)
    have hy := hb y (List.mem_cons_self ..)
    have hz := hc z (List.mem_cons_self ..)
    have ih := cmpR_trans a b c (by simpa using h) (by simpa using h') (fun v hv => ha v (List.mem_cons_of_mem _ hv)) (fun v hv => hb v (List.mem_cons_of_mem _ hv)) (fun v hv => hc v (List.mem_cons_of_mem _ hv))
    have k1 := cmpV_key hx hy
    have k2 := cmpV_key hy hz
    have k3 := cmpV_key hx hz
    rw [cmpR] at hab
    rw [cmpR, cmpR]
    by_cases e1 : cmpV x y = 0
    · rw [if_pos e1] at hab
      have ih := ih hab
      by_cases e2 : cmpV y z = 0
      · rw [if_pos e2, if_pos (show cmpV x z = 0 by omega)]
        exact ih
      · rw [if_neg e2, if_neg (show ¬ cmpV x z = 0 by omega)]
        constructor <;> intro h <;> omega
    · rw [if_neg e1] at hab
      by_cases e2 : cmpV y z = 0
      · rw [if_pos e2, if_neg (show ¬ cmpV x z = 0 by omega)]
        constructor <;> intro h <;> omega
      · rw [if_neg e2]
        by_cases e3 : cmpV x z = 0
        · rw [if_pos e3]
          constructor <;> intro h <;> omega
        · rw [if_neg e3]
          constructor <;> intro h <;> omega
theorem cmpV_self (a : V) : cmpV a a = 0 := cmpV_0 ⟨rfl, rfl⟩
theorem cmpR_self : ∀ a : List V, cmpR a a = 0
  | [] => rfl
  | x :: a => by rw [cmpR, if_pos (cmpV_self x)]; exact cmpR_self a
theorem cmpV_eq {a b : V} (h : cmpV a b = 0) : a = b := by
  unfold cmpV at h
  split at h
  · rename_i h1
    cases a; cases b
    simp at h1
    obtain ⟨rfl, rfl⟩ := h1
    rfl
  · split at h <;> omega
theorem cmpR_eq : ∀ {a b : List V}, cmpR a b = 0 → a = b
  | [], [], _ => rfl
  | [], _ :: l, h => by change ((0 : Nat) : Int) - ((l.length + 1 : Nat) : Int) = 0 at h; omega
  | _ :: l, [], h => by change ((l.length + 1 : Nat) : Int) - ((0 : Nat) : Int) = 0 at h; omega
  | x :: a, y :: b, h => by
    rw [cmpR] at h
    by_cases e : cmpV x y = 0
    · rw [if_pos e] at h
      rw [cmpV_eq e, cmpR_eq h]
    · rw [if_neg e] at h
      exact (e h).elim
/-- The rows of a valid table ascend. -/
theorem tOk_le {t : Ta} (ht : tOk t) : ∀ (d i : Nat) (q r : List V), t.rows[i]? = some q → t.rows[i + d]? = some r → cmpR q r ≤ 0 := by
  intro d
  induction d with
  | zero =>
    intro i q r hq hr
    rw [Nat.add_zero, hq] at hr
    cases hr
    rw [cmpR_self]
    exact Int.le_refl 0
  | succ d ih =>
    intro i q r hq hr
    have hlt := (List.getElem?_eq_some_iff.1 hr).1
    have hm := List.getElem?_eq_getElem (l := t.rows) (i := i + d) (by omega)
    have h1 := ih i q _ hq hm
    have h2 := (ht.2 (i + (d + 1)) r hr).2 _ (by omega) (by rw [show i + (d + 1) - 1 = i + d by omega]; exact hm)
    have g1 := ht.2 i q hq
    have g2 := ht.2 (i + d) _ hm
    have g3 := ht.2 _ r hr
    exact (cmpR_trans q _ r (by have := g1.1.2; have := g2.1.2; omega) (by have := g3.1.2; have := g2.1.2; omega) g1.1.1.2 g2.1.1.2 g3.1.1.2 h1).1 h2
/-- Halving. -/
def stepB (p : Nat → Bool) (s : Nat × Nat) : Nat × Nat := if s.1 < s.2 then (if p ((s.1 + s.2) / 2) then (s.1, (s.1 + s.2) / 2) else ((s.1 + s.2) / 2 + 1, s.2)) else s
def itB (p : Nat → Bool) (n : Nat) : Nat → Nat × Nat
  | 0 => (0, n)
  | i + 1 => stepB p (itB p n i)
theorem itB_end {p : Nat → Bool} {n i : Nat} (h : ¬ (itB p n i).1 < (itB p n i).2) : ∀ d, itB p n (i + d) = itB p n i
  | 0 => rfl
  | d + 1 => by
    rw [← Nat.add_assoc, itB, itB_end h d]
    unfold stepB
    rw [if_neg h]
theorem itB_inv {p : Nat → Bool} {n : Nat} (hp : ∀ i j, i ≤ j → j < n → p i = true → p j = true) : ∀ i, ((itB p n i).1 ≤ (itB p n i).2 ∧ (itB p n i).2 ≤ n ∧ (itB p n i).2 - (itB p n i).1 + i ≤ max n i) ∧ (∀ j, j < (itB p n i).1 → p j = false) ∧ (∀ j, (itB p n i).2 ≤ j → j < n → p j = true)
  | 0 => ⟨⟨Nat.zero_le _, Nat.le_refl _, by show n - 0 + 0 ≤ max n 0; omega⟩, fun j hj => absurd hj (Nat.not_lt_zero j), fun j (h1 : n ≤ j) h2 => by omega⟩
  | i + 1 => by
    obtain ⟨⟨h1, h2, h3⟩, h4, h5⟩ := itB_inv hp i
    rw [itB]
    generalize itB p n i = s at h1 h2 h3 h4 h5
    obtain ⟨lo, hi⟩ := s
    simp only at h1 h2 h3 h4 h5
    unfold stepB
    by_cases hlt : lo < hi
    · simp only [hlt, if_true]
      cases hm : p ((lo + hi) / 2) with
      | true =>
        simp only [if_true]
        refine ⟨⟨by omega, by omega, by omega⟩, h4, fun j hj hjn => ?_⟩
        exact hp _ j hj hjn hm
      | false =>
        simp only [Bool.false_eq_true, if_false]
        refine ⟨⟨by omega, by omega, by omega⟩, fun j hj => ?_, h5⟩
        cases hj' : p j with
        | false => rfl
        | true => rw [hp j ((lo + hi) / 2) (by omega) (by omega) hj'] at hm; cases hm
    · simp only [hlt, if_false]
      exact ⟨⟨h1, h2, by omega⟩, h4, h5⟩
/-- How many are equal. -/
def cntE (row : List V) (l : List (List V)) : Nat := (l.filter fun r => cmpR r row == 0).length
theorem cntE_next {row : List V} {l : List (List V)} {i : Nat} {x : List V} (h : l[i]? = some x) : cntE row (l.take (i + 1)) = cntE row (l.take i) + if cmpR x row = 0 then 1 else 0 := by
  unfold cntE
  rw [take_next h, List.filter_append, List.length_append, List.filter_cons, List.filter_nil]
  by_cases e : cmpR x row = 0
  · rw [if_pos e, if_pos (by simpa using e)]; rfl
  · rw [if_neg e, if_neg (by simpa using e)]; rfl
theorem cntE_len (row : List V) (l : List (List V)) : cntE row l ≤ l.length := List.length_filter_le ..
theorem cntE_app (row : List V) (l m : List (List V)) : cntE row (l ++ m) = cntE row l + cntE row m := by unfold cntE; rw [List.filter_append, List.length_append]
theorem cntE_none {row : List V} {l : List (List V)} (h : ∀ r, r ∈ l → ¬ cmpR r row = 0) : cntE row l = 0 := by
  unfold cntE
  rw [List.length_eq_zero_iff, List.filter_eq_nil_iff]
  intro a ha
  simpa using h a ha
theorem cntE_all {row : List V} {l : List (List V)} (h : ∀ r, r ∈ l → cmpR r row = 0) : cntE row l = l.length := by
  unfold cntE
  rw [List.filter_eq_self.2 (fun a ha => by simpa using h a ha)]
/-- How many are equal, by two places. -/
theorem cntE_two {row : List V} {rs : List (List V)} {a b : Nat} (ha : a ≤ rs.length) (hb : b ≤ rs.length - a) (h1 : ∀ (j : Nat) (r : List V), j < a → rs[j]? = some r → cmpR r row < 0) (h2 : ∀ (j : Nat) (r : List V), a ≤ j → rs[j]? = some r → 0 ≤ cmpR r row)
    (h3 : ∀ (j : Nat) (r : List V), j < b → rs[a + j]? = some r → ¬ 0 < cmpR r row) (h4 : ∀ (j : Nat) (r : List V), b ≤ j → rs[a + j]? = some r → 0 < cmpR r row) : cntE row rs = b := by
  have e1 := List.take_append_drop a rs
  have e2 := List.take_append_drop b (rs.drop a)
  rw [← e1, cntE_app, ← e2, cntE_app, cntE_none (l := rs.take a), cntE_all (l := (rs.drop a).take b), cntE_none (l := (rs.drop a).drop b)]
  · rw [List.length_take, List.length_drop]; omega
  · intro r hr
    obtain ⟨j, hj⟩ := List.mem_iff_getElem?.1 hr
    rw [List.getElem?_drop, List.getElem?_drop] at hj
    have := h4 (b + j) r (by omega) hj
    omega
  · intro r hr
    obtain ⟨j, hj⟩ := List.mem_iff_getElem?.1 hr
    have hjl := (List.getElem?_eq_some_iff.1 hj).1
    rw [List.length_take] at hjl
    rw [List.getElem?_take_of_lt (by omega), List.getElem?_drop] at hj
    have := h3 j r (by omega) hj
    have := h2 (a + j) r (by omega) hj
    omega
  · intro r hr
    obtain ⟨j, hj⟩ := List.mem_iff_getElem?.1 hr
    have hjl := (List.getElem?_eq_some_iff.1 hj).1
    rw [List.length_take] at hjl
    rw [List.getElem?_take_of_lt (by omega)] at hj
    have := h1 j r (by omega) hj
    omega
end Go.Proofs.Ytcnijpepnjenjaa
