/-
  The walks of the functions that compare two values.
-/
import Derived.Test.YtimmglcjjbmpdaaVal
import Derived.Lib.Hide
namespace Go.Proofs.Ytimmglcjjbmpdaa
open Go.RowKit

def cmpV (b1 : Bool) (n1 : Int) (b2 : Bool) (n2 : Int) : Int := M.V.cmp ⟨b1, n1⟩ ⟨b2, n2⟩

theorem okB_nul0 {n : Int} (h : okB true n = true) : n = 0 := by rw [okB_nul] at h; simpa using h

theorem cmpV_nn {n1 n2 : Int} (h1 : okB true n1 = true) (h2 : okB true n2 = true) : cmpV true n1 true n2 = 0 := by
  rw [okB_nul0 h1, okB_nul0 h2]; decide
theorem cmpV_nf (n1 n2 : Int) : cmpV true n1 false n2 = -1 := by simp [cmpV, M.V.cmp]
theorem cmpV_fn (n1 n2 : Int) : cmpV false n1 true n2 = 1 := by simp [cmpV, M.V.cmp]
theorem cmpV_lt {n1 n2 : Int} (h : n1 < n2) : cmpV false n1 false n2 = -1 := by
  have : n1 ≠ n2 := by omega
  simp [cmpV, M.V.cmp, h, this]
theorem cmpV_gt {n1 n2 : Int} (h : n2 < n1) : cmpV false n1 false n2 = 1 := by
  have : n1 ≠ n2 := by omega
  have h' : ¬ n1 < n2 := by omega
  simp [cmpV, M.V.cmp, h', this]
theorem cmpV_eq (n1 : Int) : cmpV false n1 false n1 = 0 := by simp [cmpV, M.V.cmp]

def cmpI (a b : Int) : Int := if a < b then -1 else if b < a then 1 else 0
theorem cmpI_lt {a b : Int} (h : a < b) : cmpI a b = -1 := if_pos h
theorem cmpI_gt {a b : Int} (h : b < a) : cmpI a b = 1 := by unfold cmpI; rw [if_neg (by omega), if_pos h]
theorem cmpI_eq (a : Int) : cmpI a a = 0 := by simp [cmpI]
theorem cmpV_num (a b : Int) : cmpV false a false b = cmpI a b := by
  by_cases h : a < b
  · rw [cmpV_lt h, cmpI_lt h]
  · by_cases h' : b < a
    · rw [cmpV_gt h', cmpI_gt h']
    · obtain rfl : a = b := by omega
      rw [cmpV_eq, cmpI_eq]

theorem cmp_int (a b : Int) (w : World) :
    Calls Try.prog 91 #[.int .i64 a, .int .i64 b] w fun e w' => e = .returned (.int .i64 (cmpI a b)) ∧ w = w' := by
  by_cases h1 : a < b
  · rw [cmpI_lt h1]
    go_enter Try.func91, Try.ntmps91
    go_wp2
    go_ret
    exact ⟨rfl, rfl⟩
  · by_cases h2 : b < a
    · rw [cmpI_gt h2]
      go_enter Try.func91, Try.ntmps91
      go_wp2
      go_ret
      exact ⟨rfl, rfl⟩
    · obtain rfl : a = b := by omega
      rw [cmpI_eq]
      go_enter Try.func91, Try.ntmps91
      go_wp2
      go_ret
      exact ⟨rfl, rfl⟩

theorem compare_any (b1 : Bool) (n1 : Int) (b2 : Bool) (n2 : Int) (w : World) (h1 : okB b1 n1 = true) (h2 : okB b2 n2 = true) :
    Calls Try.prog 56 #[.agg #[.bool b1, .int .i64 n1], .agg #[.bool b2, .int .i64 n2]] w fun e w' => e = .returned (.int .i64 (cmpV b1 n1 b2 n2)) ∧ Below w.heap.size w w' := by
  have hb : ∀ o1 o2, Below w.heap.size w ((w.alloc o1).alloc o2) := fun o1 o2 => ((Below.refl _ _).alloc (Nat.le_refl _) _).alloc (by simp) _
  cases b1
  · cases b2
    · clear h1 h2
      go_enter Try.func56, Try.ntmps56
      go_wp2_with (go_at_call 91; refine (cmp_int _ _ _).mono ?_; rintro e w' ⟨rfl, rfl⟩)
      go_ret
      exact ⟨ret_int (cmpV_num _ _).symm, hb _ _⟩
    · rw [cmpV_fn]
      clear h1 h2
      go_enter Try.func56, Try.ntmps56
      go_wp2_with fail
      go_ret
      exact ⟨rfl, hb _ _⟩
  · cases b2
    · rw [cmpV_nf]
      clear h1 h2
      go_enter Try.func56, Try.ntmps56
      go_wp2_with fail
      go_ret
      exact ⟨rfl, hb _ _⟩
    · rw [cmpV_nn h1 h2]
      clear h1 h2
      go_enter Try.func56, Try.ntmps56
      go_wp2_with fail
      go_ret
      exact ⟨rfl, hb _ _⟩

theorem scmp_plain (b1 : Bool) (n1 : Int) (b2 : Bool) (n2 : Int) : cmpV b1 n1 b2 n2 = if b1 = b2 ∧ n1 = n2 then 0 else if b1 = true ∨ (b2 = false ∧ n1 < n2) then -1 else 1 := by
  unfold cmpV M.V.cmp
  simp

theorem scompare_any (b1 : Bool) (n1 : Int) (b2 : Bool) (n2 : Int) (w : World) :
    Calls Try.prog 58 #[.agg #[.bool b1, .int .i64 n1], .agg #[.bool b2, .int .i64 n2]] w fun e w' => e = .returned (.int .i64 (cmpV b1 n1 b2 n2)) ∧ Below w.heap.size w w' := by
  have hb : ∀ o1 o2, Below w.heap.size w ((w.alloc o1).alloc o2) := fun o1 o2 => ((Below.refl _ _).alloc (Nat.le_refl _) _).alloc (by simp) _
  have hp := Lib.hid (scmp_plain b1 n1 b2 n2)
  go_enter Try.func58, Try.ntmps58
  go_wp2_with fail
  all_goals go_ret
  all_goals refine ⟨ret_int ?_, hb _ _⟩
  all_goals
    rw [hp.out]
    clear hp hb
    first
      | (subst_vars; simp [*]; done)
      | (have h' : n1 ≠ n2 := by omega
         simp [*]; done)
      | (have h' : ¬ n1 < n2 := by omega
         have h'' : n1 ≠ n2 := by intro e; subst e; simp_all
         simp [*]; done)

theorem cmpVals_eq (b1 : Bool) (n1 : Int) (b2 : Bool) (n2 : Int) : M.cmpVals ⟨b1, n1⟩ ⟨b2, n2⟩ = if okB b1 n1 = true ∧ okB b2 n2 = true then cmpV b1 n1 b2 n2 else 2 := rfl

theorem nb {b : Bool} (h : (!b) = false) : b = true := by simpa using h

theorem Compare_any (b1 : Bool) (n1 : Int) (b2 : Bool) (n2 : Int) (w : World) :
    Calls Try.prog 18 #[.agg #[.bool b1, .int .i64 n1], .agg #[.bool b2, .int .i64 n2]] w fun e w' => e = .returned (.int .i64 (M.cmpVals ⟨b1, n1⟩ ⟨b2, n2⟩)) ∧ Below w.heap.size w w' := by
  have hp := Lib.hid (cmpVals_eq b1 n1 b2 n2)
  have h0 : Below w.heap.size w ((w.alloc (.cells #[.bool b1, .int .i64 n1] 24)).alloc (.cells #[.bool b2, .int .i64 n2] 24)) := B_alloc (B_alloc (Below.refl _ _) _) _
  have hB := Below.refl ((w.alloc (.cells #[.bool b1, .int .i64 n1] 24)).alloc (.cells #[.bool b2, .int .i64 n2] 24)).heap.size ((w.alloc (.cells #[.bool b1, .int .i64 n1] 24)).alloc (.cells #[.bool b2, .int .i64 n2] 24))
  go_enter Try.func18, Try.ntmps18
  go_wp2_with (first
    | (go_at_call 55; refine (valid_any _ _ _).mono ?_; rintro e w1 ⟨rfl, hb⟩; replace hB := B_more hB hb; clear hb; (try clear hc hf hz); obtain ⟨hc, hf, hz⟩ := stand (B := w.heap.size + 2) (hB.mono (by simp)) (by simp))
    | (go_at_call 56; refine (compare_any _ _ _ _ _ (by assumption) (nb (by assumption))).mono ?_; rintro e w1 ⟨rfl, hb⟩; replace hB := B_more hB hb; clear hb; (try clear hc hf hz); obtain ⟨hc, hf, hz⟩ := stand (B := w.heap.size + 2) (hB.mono (by simp)) (by simp)))
  all_goals go_ret
  all_goals refine ⟨ret_int ?_, B_more h0 hB⟩
  all_goals rw [hp.out]
  all_goals clear hp hB h0
  all_goals simp_all

theorem sCompare_any (b1 : Bool) (n1 : Int) (b2 : Bool) (n2 : Int) (w : World) :
    Calls Try.prog 19 #[.agg #[.bool b1, .int .i64 n1], .agg #[.bool b2, .int .i64 n2]] w fun e w' => e = .returned (.int .i64 (M.cmpVals ⟨b1, n1⟩ ⟨b2, n2⟩)) ∧ Below w.heap.size w w' := by
  have hp := Lib.hid (cmpVals_eq b1 n1 b2 n2)
  have h0 : Below w.heap.size w ((w.alloc (.cells #[.bool b1, .int .i64 n1] 24)).alloc (.cells #[.bool b2, .int .i64 n2] 24)) := B_alloc (B_alloc (Below.refl _ _) _) _
  have hB := Below.refl ((w.alloc (.cells #[.bool b1, .int .i64 n1] 24)).alloc (.cells #[.bool b2, .int .i64 n2] 24)).heap.size ((w.alloc (.cells #[.bool b1, .int .i64 n1] 24)).alloc (.cells #[.bool b2, .int .i64 n2] 24))
  go_enter Try.func19, Try.ntmps19
  go_wp2_with (first
    | (go_at_call 57; refine (svalid_any _ _ _).mono ?_; rintro e w1 ⟨rfl, hb⟩; replace hB := B_more hB hb; clear hb; (try clear hc hf hz); obtain ⟨hc, hf, hz⟩ := stand (B := w.heap.size + 2) (hB.mono (by simp)) (by simp))
    | (go_at_call 58; refine (scompare_any _ _ _ _ _).mono ?_; rintro e w1 ⟨rfl, hb⟩; replace hB := B_more hB hb; clear hb; (try clear hc hf hz); obtain ⟨hc, hf, hz⟩ := stand (B := w.heap.size + 2) (hB.mono (by simp)) (by simp)))
  all_goals go_ret
  all_goals refine ⟨ret_int ?_, B_more h0 hB⟩
  all_goals rw [hp.out]
  all_goals clear hp hB h0
  all_goals simp_all

end Go.Proofs.Ytimmglcjjbmpdaa
