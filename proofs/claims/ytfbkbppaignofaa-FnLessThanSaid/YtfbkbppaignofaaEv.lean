/-
  The values of expressions; the walks of the model's small functions.
-/
import Derived.Test.YtfbkbppaignofaaSizeE
namespace Go.Proofs.Ytfbkbppaignofaa
open Go.RowKit

namespace M
def tru (v : V) : Int := if v.nul = true then 2 else if v.n = 0 then 0 else 1
def ofT (n : Int) : V := if n = 2 then ⟨true, 0⟩ else ⟨false, n⟩
def notT (a : Int) : Int := if a = 2 then 2 else 1 - a
def andT (a b : Int) : Int := if a = 0 ∨ b = 0 then 0 else if a = 1 ∧ b = 1 then 1 else 2
def num (n : Int) : V := if -9999 ≤ n ∧ n ≤ 9999 then ⟨false, n⟩ else ⟨true, 0⟩
def oneIf (p : Bool) : Int := if p = true then 1 else 0
def comb (k : Int) (a b : V) : V :=
  if k = 8 then ofT (andT (tru a) (tru b)) else if k = 9 then ofT (notT (andT (notT (tru a)) (notT (tru b))))
  else if a.nul = true ∨ b.nul = true then ⟨true, 0⟩
  else if k = 3 then num (a.n + b.n) else if k = 4 then num (a.n - b.n) else if k = 5 then num (a.n * b.n) else if k = 6 then ⟨false, oneIf (decide (a.n = b.n))⟩ else ⟨false, oneIf (decide (a.n < b.n))⟩

theorem tru_three (v : V) : tru v = 0 ∨ tru v = 1 ∨ tru v = 2 := by
  unfold tru
  repeat' split
  all_goals omega
theorem notT_three {a : Int} (h : a = 0 ∨ a = 1 ∨ a = 2) : notT a = 0 ∨ notT a = 1 ∨ notT a = 2 := by
  rcases h with rfl | rfl | rfl <;> decide
theorem andT_three {a b : Int} : andT a b = 0 ∨ andT a b = 1 ∨ andT a b = 2 := by
  unfold andT
  repeat' split
  all_goals omega
theorem ofT_ok {a : Int} (h : a = 0 ∨ a = 1 ∨ a = 2) : (ofT a).ok = true := by
  rcases h with rfl | rfl | rfl <;> decide
theorem num_ok (n : Int) : (num n).ok = true := by
  unfold num
  split
  · rename_i h
    unfold V.ok
    simpa using h
  · decide
theorem oneIf_ok (p : Bool) : (V.mk false (oneIf p)).ok = true := by cases p <;> decide
theorem comb_ok (k : Int) (a b : V) : (comb k a b).ok = true := by
  unfold comb
  repeat' split
  · exact ofT_ok andT_three
  · exact ofT_ok (notT_three andT_three)
  · decide
  · exact num_ok _
  · exact num_ok _
  · exact num_ok _
  · exact oneIf_ok _
  · exact oneIf_ok _
end M

namespace ET
open M
def ev : ET → (Nat → V) → V
  | .mk k c b n _ kid, f => if k = 1 then f c.toNat else if k = 2 then ⟨b, n⟩ else if k = 10 then ofT (notT (tru ((kid 0).ev f))) else if k = 11 then ⟨false, oneIf ((kid 0).ev f).nul⟩ else comb k ((kid 0).ev f) ((kid 1).ev f)
  | .no, _ => ⟨true, 0⟩

theorem ev_ok (f : Nat → V) (N : Nat) (hf : ∀ i, i < N → (f i).ok = true) : ∀ (t : ET) (lv : Nat), t.okE N lv = true → (t.ev f).ok = true := by
  refine ET.all ?_ ?_
  · intro k c b n m kid IH lv h
    obtain ⟨ha, hh, hk⟩ := okE_parts h
    have ha' : (m : Int) = ar k := ha
    have hh' : headOk k c b n N = true := hh
    rw [ev]
    unfold headOk at hh'
    by_cases h1 : k = 1
    · rw [if_pos h1] at hh' ⊢
      have := of_decide_eq_true hh'
      exact hf _ (by omega)
    · rw [if_neg h1] at hh' ⊢
      by_cases h2 : k = 2
      · rw [if_pos h2] at hh' ⊢
        exact (of_decide_eq_true hh').2
      · rw [if_neg h2] at hh' ⊢
        by_cases h3 : k = 10
        · rw [if_pos h3]
          exact ofT_ok (notT_three (tru_three _))
        · rw [if_neg h3]
          split
          · exact oneIf_ok _
          · exact comb_ok _ _ _
  · intro _ lv _
    show (V.mk true 0).ok = true
    decide
end ET

/-- A value, as it is in memory. -/
def vv (v : M.V) : Value := .agg #[.bool v.nul, .int .i64 v.n]

theorem ret_V {a b : M.V} (h : a = b) : Ending.returned (vv a) = .returned (vv b) := by rw [h]

theorem struth_any (b : Bool) (n : Int) (w : World) :
    Calls Try.prog 58 #[.agg #[.bool b, .int .i64 n]] w fun e w' => e = .returned (.int .i64 (M.tru ⟨b, n⟩)) ∧ Below w.heap.size w w' := by
  cases b
  · by_cases h : n = 0
    · subst h
      go_enter Try.func58, Try.ntmps58
      go_wp2
      go_ret
      exact ⟨rfl, (Below.refl _ _).alloc (Nat.le_refl _) _⟩
    · have hT := Lib.hid (show M.tru ⟨false, n⟩ = 1 by unfold M.tru; simp [h])
      go_enter Try.func58, Try.ntmps58
      go_wp2
      go_ret
      exact ⟨ret_int hT.out.symm, (Below.refl _ _).alloc (Nat.le_refl _) _⟩
  · go_enter Try.func58, Try.ntmps58
    go_wp2
    go_ret
    exact ⟨rfl, (Below.refl _ _).alloc (Nat.le_refl _) _⟩

theorem sofTruth_any (n : Int) (w : World) :
    Calls Try.prog 56 #[.int .i64 n] w fun e w' => e = .returned (vv (M.ofT n)) ∧ Below w.heap.size w w' := by
  by_cases h : n = 2
  · subst h
    go_enter Try.func56, Try.ntmps56
    go_wp2
    exact bodyPost_ret (v := .agg #[.bool true, .int .i64 0]) (by simp [results, Try.results56, go_sem]) rfl ⟨rfl, (Below.refl _ _).alloc (Nat.le_refl _) _⟩
  · have hT := Lib.hid (show M.ofT n = ⟨false, n⟩ by unfold M.ofT; rw [if_neg h])
    go_enter Try.func56, Try.ntmps56
    go_wp2
    exact bodyPost_ret (v := .agg #[.bool false, .int .i64 n]) (by simp [results, Try.results56, go_sem]) rfl ⟨ret_V (a := ⟨false, n⟩) hT.out.symm, (Below.refl _ _).alloc (Nat.le_refl _) _⟩

theorem snotTruth_any (a : Int) (ha : a = 0 ∨ a = 1 ∨ a = 2) (w : World) :
    Calls Try.prog 57 #[.int .i64 a] w fun e w' => e = .returned (.int .i64 (M.notT a)) ∧ w = w' := by
  rcases ha with rfl | rfl | rfl
  all_goals
    go_enter Try.func57, Try.ntmps57
    go_wp2
    go_ret
    exact ⟨rfl, rfl⟩

theorem sandTruth_any (a b : Int) (ha : a = 0 ∨ a = 1 ∨ a = 2) (hb : b = 0 ∨ b = 1 ∨ b = 2) (w : World) :
    Calls Try.prog 65 #[.int .i64 a, .int .i64 b] w fun e w' => e = .returned (.int .i64 (M.andT a b)) ∧ w = w' := by
  rcases ha with rfl | rfl | rfl <;> rcases hb with rfl | rfl | rfl
  all_goals
    go_enter Try.func65, Try.ntmps65
    go_wp2
    go_ret
    exact ⟨rfl, rfl⟩

theorem stoInt_any (b : Bool) (w : World) :
    Calls Try.prog 59 #[.bool b] w fun e w' => e = .returned (.int .i64 (M.oneIf b)) ∧ w = w' := by
  cases b
  all_goals
    go_enter Try.func59, Try.ntmps59
    go_wp2
    go_ret
    exact ⟨rfl, rfl⟩

theorem snumber_any (n : Int) (w : World) :
    Calls Try.prog 66 #[.int .i64 n] w fun e w' => e = .returned (vv (M.num n)) ∧ Below w.heap.size w w' := by
  by_cases h : -9999 ≤ n ∧ n ≤ 9999
  · have hT := Lib.hid (show M.num n = ⟨false, n⟩ from if_pos h)
    have cw := Lib.hid (fun w => ET.inRange_lit (w := w) (n := n) (lo := -9999) (hi := 9999) (x := true) (by simp; exact h))
    go_enter Try.func66, Try.ntmps66
    go_wp2_with fail
    refine (cw.out _).mono ?_; rintro e w' ⟨rfl, rfl⟩
    go_wp2_with fail
    exact bodyPost_ret (v := .agg #[.bool false, .int .i64 n]) (by simp [results, Try.results66, go_sem]) rfl ⟨ret_V (a := ⟨false, n⟩) hT.out.symm, (Below.refl _ _).alloc (Nat.le_refl _) _⟩
  · have hT := Lib.hid (show M.num n = ⟨true, 0⟩ from if_neg h)
    have cw := Lib.hid (fun w => ET.inRange_lit (w := w) (n := n) (lo := -9999) (hi := 9999) (x := false) (by simp; omega))
    go_enter Try.func66, Try.ntmps66
    go_wp2_with fail
    refine (cw.out _).mono ?_; rintro e w' ⟨rfl, rfl⟩
    go_wp2_with fail
    exact bodyPost_ret (v := .agg #[.bool true, .int .i64 0]) (by simp [results, Try.results66, go_sem]) rfl ⟨ret_V (a := ⟨true, 0⟩) hT.out.symm, (Below.refl _ _).alloc (Nat.le_refl _) _⟩

end Go.Proofs.Ytfbkbppaignofaa
