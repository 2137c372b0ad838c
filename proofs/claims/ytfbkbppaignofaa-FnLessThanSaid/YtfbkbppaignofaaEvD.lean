/-
  The walk of the model's combine, the other kinds.
-/
import Derived.Test.YtfbkbppaignofaaEvC
namespace Go.Proofs.Ytfbkbppaignofaa
open Go.RowKit

theorem vv_eq (v : M.V) : vv v = .agg #[.bool v.nul, .int .i64 v.n] := rfl
theorem scombine_null (k : Int) (b1 : Bool) (n1 : Int) (b2 : Bool) (n2 : Int) (w : World) (h8 : ¬ k = 8) (h9 : ¬ k = 9) (hn : b1 = true ∨ b2 = true) :
    Calls Try.prog 60 #[.int .i64 k, .agg #[.bool b1, .int .i64 n1], .agg #[.bool b2, .int .i64 n2]] w fun e w' => e = .returned (vv (M.comb k ⟨b1, n1⟩ ⟨b2, n2⟩)) ∧ Below w.heap.size w w' := by
  have HC := Lib.hid (show M.comb k ⟨b1, n1⟩ ⟨b2, n2⟩ = ⟨true, 0⟩ by unfold M.comb; rw [if_neg h8, if_neg h9, if_pos hn])
  have hb8 : (k == 8) = false := by simpa using h8
  have hb9 : (k == 9) = false := by simpa using h9
  have HB := Lib.hid (B_alloc (B_alloc (B_alloc (Below.refl w.heap.size w) (.cells #[.bool b1, .int .i64 n1] 24)) (.cells #[.bool b2, .int .i64 n2] 24)) (.cells #[.bool false, .int .i64 0] 24))
  have XA := Lib.hid (((Blk.new' (w := w) (cs := #[.bool b1, .int .i64 n1]) (T := 24) (g := w.heap.size) rfl).alloc (.cells #[.bool b2, .int .i64 n2] 24)).alloc (.cells #[.bool false, .int .i64 0] 24))
  have XB := Lib.hid ((Blk.new' (w := w.alloc (.cells #[.bool b1, .int .i64 n1] 24)) (cs := #[.bool b2, .int .i64 n2]) (T := 24) (g := w.heap.size + 1) (by simp)).alloc (.cells #[.bool false, .int .i64 0] 24))
  have XR := Lib.hid (Blk.new' (w := (w.alloc (.cells #[.bool b1, .int .i64 n1] 24)).alloc (.cells #[.bool b2, .int .i64 n2] 24)) (cs := #[.bool false, .int .i64 0]) (T := 24) (g := w.heap.size + 1 + 1) (by simp))
  cases b1
  · obtain rfl : b2 = true := by rcases hn with h | h; cases h; exact h
    clear hn
    go_enter Try.func60, Try.ntmps60
    go_wp2_with fail
    exact bodyPost_ret (v := vv ⟨true, 0⟩) (by simp [results, Try.results60, go_sem, vv]) rfl ⟨ret_V HC.out.symm, B_alloc (B_alloc (B_alloc (Below.refl _ _) _) _) _⟩
  · clear hn
    go_enter Try.func60, Try.ntmps60
    go_wp2_with fail
    exact bodyPost_ret (v := vv ⟨true, 0⟩) (by simp [results, Try.results60, go_sem, vv]) rfl ⟨ret_V HC.out.symm, B_alloc (B_alloc (B_alloc (Below.refl _ _) _) _) _⟩

theorem scombine_plus (n1 n2 : Int) (w : World) (h1 : -9999 ≤ n1 ∧ n1 ≤ 9999) (h2 : -9999 ≤ n2 ∧ n2 ≤ 9999) :
    Calls Try.prog 60 #[.int .i64 3, .agg #[.bool false, .int .i64 n1], .agg #[.bool false, .int .i64 n2]] w fun e w' => e = .returned (vv (M.comb 3 ⟨false, n1⟩ ⟨false, n2⟩)) ∧ Below w.heap.size w w' := by
  have HC := Lib.hid (show M.comb 3 ⟨false, n1⟩ ⟨false, n2⟩ = M.num (n1 + n2) from rfl)
  obtain ⟨h1a, h1b⟩ := h1
  obtain ⟨h2a, h2b⟩ := h2
  have HB := Lib.hid (B_alloc (B_alloc (B_alloc (Below.refl w.heap.size w) (.cells #[.bool false, .int .i64 n1] 24)) (.cells #[.bool false, .int .i64 n2] 24)) (.cells #[.bool false, .int .i64 0] 24))
  have XA := Lib.hid (((Blk.new' (w := w) (cs := #[.bool false, .int .i64 n1]) (T := 24) (g := w.heap.size) rfl).alloc (.cells #[.bool false, .int .i64 n2] 24)).alloc (.cells #[.bool false, .int .i64 0] 24))
  have XB := Lib.hid ((Blk.new' (w := w.alloc (.cells #[.bool false, .int .i64 n1] 24)) (cs := #[.bool false, .int .i64 n2]) (T := 24) (g := w.heap.size + 1) (by simp)).alloc (.cells #[.bool false, .int .i64 0] 24))
  have XR := Lib.hid (Blk.new' (w := (w.alloc (.cells #[.bool false, .int .i64 n1] 24)).alloc (.cells #[.bool false, .int .i64 n2] 24)) (cs := #[.bool false, .int .i64 0]) (T := 24) (g := w.heap.size + 1 + 1) (by simp))
  go_enter Try.func60, Try.ntmps60
  go_wp2_with fail
  refine (snumber_any _ _).mono ?_; rintro e w1 ⟨rfl, hb⟩
  have XR1 := Lib.hid (XR.out.below hb)
  have HB1 := Lib.hid (B_more HB.out hb)
  clear hb
  have r0 := XR1.out.cell 0 _ rfl
  have r1 := XR1.out.cell 1 _ rfl
  have q0 := XR1.out.free 0
  have q1 := XR1.out.free 1
  dsimp only [List.getElem_toArray, List.getElem_cons_zero, List.getElem_cons_succ] at r0 r1
  unfold vv
  go_wp2_with fail
  exact bodyPost_ret (v := vv (M.num (n1 + n2))) (by simp [results, Try.results60, go_sem, r0, r1, vv]) rfl ⟨ret_V HC.out.symm, B_set (B_set HB1.out (by simp; omega) _) (by simp; omega) _⟩

theorem scombine_minus (n1 n2 : Int) (w : World) (h1 : -9999 ≤ n1 ∧ n1 ≤ 9999) (h2 : -9999 ≤ n2 ∧ n2 ≤ 9999) :
    Calls Try.prog 60 #[.int .i64 4, .agg #[.bool false, .int .i64 n1], .agg #[.bool false, .int .i64 n2]] w fun e w' => e = .returned (vv (M.comb 4 ⟨false, n1⟩ ⟨false, n2⟩)) ∧ Below w.heap.size w w' := by
  have HC := Lib.hid (show M.comb 4 ⟨false, n1⟩ ⟨false, n2⟩ = M.num (n1 - n2) from rfl)
  obtain ⟨h1a, h1b⟩ := h1
  obtain ⟨h2a, h2b⟩ := h2
  have HB := Lib.hid (B_alloc (B_alloc (B_alloc (Below.refl w.heap.size w) (.cells #[.bool false, .int .i64 n1] 24)) (.cells #[.bool false, .int .i64 n2] 24)) (.cells #[.bool false, .int .i64 0] 24))
  have XA := Lib.hid (((Blk.new' (w := w) (cs := #[.bool false, .int .i64 n1]) (T := 24) (g := w.heap.size) rfl).alloc (.cells #[.bool false, .int .i64 n2] 24)).alloc (.cells #[.bool false, .int .i64 0] 24))
  have XB := Lib.hid ((Blk.new' (w := w.alloc (.cells #[.bool false, .int .i64 n1] 24)) (cs := #[.bool false, .int .i64 n2]) (T := 24) (g := w.heap.size + 1) (by simp)).alloc (.cells #[.bool false, .int .i64 0] 24))
  have XR := Lib.hid (Blk.new' (w := (w.alloc (.cells #[.bool false, .int .i64 n1] 24)).alloc (.cells #[.bool false, .int .i64 n2] 24)) (cs := #[.bool false, .int .i64 0]) (T := 24) (g := w.heap.size + 1 + 1) (by simp))
  go_enter Try.func60, Try.ntmps60
  go_wp2_with fail
  refine (snumber_any _ _).mono ?_; rintro e w1 ⟨rfl, hb⟩
  have XR1 := Lib.hid (XR.out.below hb)
  have HB1 := Lib.hid (B_more HB.out hb)
  clear hb
  have r0 := XR1.out.cell 0 _ rfl
  have r1 := XR1.out.cell 1 _ rfl
  have q0 := XR1.out.free 0
  have q1 := XR1.out.free 1
  dsimp only [List.getElem_toArray, List.getElem_cons_zero, List.getElem_cons_succ] at r0 r1
  unfold vv
  go_wp2_with fail
  exact bodyPost_ret (v := vv (M.num (n1 - n2))) (by simp [results, Try.results60, go_sem, r0, r1, vv]) rfl ⟨ret_V HC.out.symm, B_set (B_set HB1.out (by simp; omega) _) (by simp; omega) _⟩

theorem scombine_times (n1 n2 : Int) (w : World) (h1 : -9999 ≤ n1 ∧ n1 ≤ 9999) (h2 : -9999 ≤ n2 ∧ n2 ≤ 9999) :
    Calls Try.prog 60 #[.int .i64 5, .agg #[.bool false, .int .i64 n1], .agg #[.bool false, .int .i64 n2]] w fun e w' => e = .returned (vv (M.comb 5 ⟨false, n1⟩ ⟨false, n2⟩)) ∧ Below w.heap.size w w' := by
  have HC := Lib.hid (show M.comb 5 ⟨false, n1⟩ ⟨false, n2⟩ = M.num (n1 * n2) from rfl)
  obtain ⟨h1a, h1b⟩ := h1
  obtain ⟨h2a, h2b⟩ := h2
  have hm1 : n1 * n2 ≤ 99980001 := by
    have := Int.mul_le_mul_of_nonneg_right h1b (show 0 ≤ n2 + 9999 by omega)
    have := Int.mul_le_mul_of_nonneg_right h1a (show 0 ≤ 9999 - n2 by omega)
    simp only [Int.mul_add, Int.mul_sub] at *
    omega
  have hm2 : -99980001 ≤ n1 * n2 := by
    have := Int.mul_le_mul_of_nonneg_right h1b (show 0 ≤ 9999 - n2 by omega)
    have := Int.mul_le_mul_of_nonneg_right h1a (show 0 ≤ n2 + 9999 by omega)
    simp only [Int.mul_add, Int.mul_sub] at *
    omega
  have HB := Lib.hid (B_alloc (B_alloc (B_alloc (Below.refl w.heap.size w) (.cells #[.bool false, .int .i64 n1] 24)) (.cells #[.bool false, .int .i64 n2] 24)) (.cells #[.bool false, .int .i64 0] 24))
  have XA := Lib.hid (((Blk.new' (w := w) (cs := #[.bool false, .int .i64 n1]) (T := 24) (g := w.heap.size) rfl).alloc (.cells #[.bool false, .int .i64 n2] 24)).alloc (.cells #[.bool false, .int .i64 0] 24))
  have XB := Lib.hid ((Blk.new' (w := w.alloc (.cells #[.bool false, .int .i64 n1] 24)) (cs := #[.bool false, .int .i64 n2]) (T := 24) (g := w.heap.size + 1) (by simp)).alloc (.cells #[.bool false, .int .i64 0] 24))
  have XR := Lib.hid (Blk.new' (w := (w.alloc (.cells #[.bool false, .int .i64 n1] 24)).alloc (.cells #[.bool false, .int .i64 n2] 24)) (cs := #[.bool false, .int .i64 0]) (T := 24) (g := w.heap.size + 1 + 1) (by simp))
  go_enter Try.func60, Try.ntmps60
  go_wp2_with fail
  refine (snumber_any _ _).mono ?_; rintro e w1 ⟨rfl, hb⟩
  have XR1 := Lib.hid (XR.out.below hb)
  have HB1 := Lib.hid (B_more HB.out hb)
  clear hb
  have r0 := XR1.out.cell 0 _ rfl
  have r1 := XR1.out.cell 1 _ rfl
  have q0 := XR1.out.free 0
  have q1 := XR1.out.free 1
  dsimp only [List.getElem_toArray, List.getElem_cons_zero, List.getElem_cons_succ] at r0 r1
  unfold vv
  go_wp2_with fail
  exact bodyPost_ret (v := vv (M.num (n1 * n2))) (by simp [results, Try.results60, go_sem, r0, r1, vv]) rfl ⟨ret_V HC.out.symm, B_set (B_set HB1.out (by simp; omega) _) (by simp; omega) _⟩

theorem scombine_equal (n1 n2 : Int) (w : World) :
    Calls Try.prog 60 #[.int .i64 6, .agg #[.bool false, .int .i64 n1], .agg #[.bool false, .int .i64 n2]] w fun e w' => e = .returned (vv (M.comb 6 ⟨false, n1⟩ ⟨false, n2⟩)) ∧ Below w.heap.size w w' := by
  have HC := Lib.hid (show M.comb 6 ⟨false, n1⟩ ⟨false, n2⟩ = ⟨false, M.oneIf (n1 == n2)⟩ from rfl)
  have HB := Lib.hid (B_alloc (B_alloc (B_alloc (Below.refl w.heap.size w) (.cells #[.bool false, .int .i64 n1] 24)) (.cells #[.bool false, .int .i64 n2] 24)) (.cells #[.bool false, .int .i64 0] 24))
  have XA := Lib.hid (((Blk.new' (w := w) (cs := #[.bool false, .int .i64 n1]) (T := 24) (g := w.heap.size) rfl).alloc (.cells #[.bool false, .int .i64 n2] 24)).alloc (.cells #[.bool false, .int .i64 0] 24))
  have XB := Lib.hid ((Blk.new' (w := w.alloc (.cells #[.bool false, .int .i64 n1] 24)) (cs := #[.bool false, .int .i64 n2]) (T := 24) (g := w.heap.size + 1) (by simp)).alloc (.cells #[.bool false, .int .i64 0] 24))
  have XR := Lib.hid (Blk.new' (w := (w.alloc (.cells #[.bool false, .int .i64 n1] 24)).alloc (.cells #[.bool false, .int .i64 n2] 24)) (cs := #[.bool false, .int .i64 0]) (T := 24) (g := w.heap.size + 1 + 1) (by simp))
  go_enter Try.func60, Try.ntmps60
  go_wp2_with fail
  refine (stoInt_any _ _).mono ?_; rintro e w1 ⟨rfl, rfl⟩
  go_wp2_with fail
  exact bodyPost_ret (v := vv (⟨false, M.oneIf (n1 == n2)⟩)) (by simp [results, Try.results60, go_sem, vv]) rfl ⟨ret_V HC.out.symm, B_alloc (B_alloc (B_alloc (Below.refl _ _) _) _) _⟩

theorem scombine_less (n1 n2 : Int) (w : World) :
    Calls Try.prog 60 #[.int .i64 7, .agg #[.bool false, .int .i64 n1], .agg #[.bool false, .int .i64 n2]] w fun e w' => e = .returned (vv (M.comb 7 ⟨false, n1⟩ ⟨false, n2⟩)) ∧ Below w.heap.size w w' := by
  have HC := Lib.hid (show M.comb 7 ⟨false, n1⟩ ⟨false, n2⟩ = ⟨false, M.oneIf (decide (n1 < n2))⟩ from rfl)
  have HB := Lib.hid (B_alloc (B_alloc (B_alloc (Below.refl w.heap.size w) (.cells #[.bool false, .int .i64 n1] 24)) (.cells #[.bool false, .int .i64 n2] 24)) (.cells #[.bool false, .int .i64 0] 24))
  have XA := Lib.hid (((Blk.new' (w := w) (cs := #[.bool false, .int .i64 n1]) (T := 24) (g := w.heap.size) rfl).alloc (.cells #[.bool false, .int .i64 n2] 24)).alloc (.cells #[.bool false, .int .i64 0] 24))
  have XB := Lib.hid ((Blk.new' (w := w.alloc (.cells #[.bool false, .int .i64 n1] 24)) (cs := #[.bool false, .int .i64 n2]) (T := 24) (g := w.heap.size + 1) (by simp)).alloc (.cells #[.bool false, .int .i64 0] 24))
  have XR := Lib.hid (Blk.new' (w := (w.alloc (.cells #[.bool false, .int .i64 n1] 24)).alloc (.cells #[.bool false, .int .i64 n2] 24)) (cs := #[.bool false, .int .i64 0]) (T := 24) (g := w.heap.size + 1 + 1) (by simp))
  go_enter Try.func60, Try.ntmps60
  go_wp2_with fail
  refine (stoInt_any _ _).mono ?_; rintro e w1 ⟨rfl, rfl⟩
  go_wp2_with fail
  exact bodyPost_ret (v := vv (⟨false, M.oneIf (decide (n1 < n2))⟩)) (by simp [results, Try.results60, go_sem, vv]) rfl ⟨ret_V HC.out.symm, B_alloc (B_alloc (B_alloc (Below.refl _ _) _) _) _⟩

theorem scombine_any (k : Int) (u v : M.V) (w : World) (hk : 3 ≤ k ∧ k ≤ 9) (hu : u.ok = true) (hv : v.ok = true) :
    Calls Try.prog 60 #[.int .i64 k, vv u, vv v] w fun e w' => e = .returned (vv (M.comb k u v)) ∧ Below w.heap.size w w' := by
  obtain ⟨b1, n1⟩ := u
  obtain ⟨b2, n2⟩ := v
  by_cases h8 : k = 8
  · subst h8; exact scombine_and b1 n1 b2 n2 w
  · by_cases h9 : k = 9
    · subst h9; exact scombine_or b1 n1 b2 n2 w
    · cases b1
      · cases b2
        · have hu' := M.V.ok_bounds hu
          have hv' := M.V.ok_bounds hv
          by_cases h3 : k = 3
          · subst h3; exact scombine_plus n1 n2 w hu' hv'
          · by_cases h4 : k = 4
            · subst h4; exact scombine_minus n1 n2 w hu' hv'
            · by_cases h5 : k = 5
              · subst h5; exact scombine_times n1 n2 w hu' hv'
              · by_cases h6 : k = 6
                · subst h6; exact scombine_equal n1 n2 w
                · obtain rfl : k = 7 := by omega
                  exact scombine_less n1 n2 w
        · exact scombine_null k false n1 true n2 w h8 h9 (.inr rfl)
      · exact scombine_null k true n1 b2 n2 w h8 h9 (.inl rfl)
end Go.Proofs.Ytfbkbppaignofaa
