/-
  The walk of the law that values are totally ordered.
-/
import Derived.Test.YtimmglcjjbmpdaaDrawTwo
import Derived.Test.YtimmglcjjbmpdaaCmp
namespace Go.Proofs.Ytimmglcjjbmpdaa
open Go.RowKit

theorem Compare_lit (b1 : Bool) (n1 : Int) (b2 : Bool) (n2 x : Int) (h : M.cmpVals ⟨b1, n1⟩ ⟨b2, n2⟩ = x) (w : World) :
    Calls Try.prog 18 #[.agg #[.bool b1, .int .i64 n1], .agg #[.bool b2, .int .i64 n2]] w fun e w' => e = .returned (.int .i64 x) ∧ Below w.heap.size w w' := by
  subst h
  exact Compare_any b1 n1 b2 n2 w
theorem sCompare_lit (b1 : Bool) (n1 : Int) (b2 : Bool) (n2 x : Int) (h : M.cmpVals ⟨b1, n1⟩ ⟨b2, n2⟩ = x) (w : World) :
    Calls Try.prog 19 #[.agg #[.bool b1, .int .i64 n1], .agg #[.bool b2, .int .i64 n2]] w fun e w' => e = .returned (.int .i64 x) ∧ Below w.heap.size w w' := by
  subst h
  exact sCompare_any b1 n1 b2 n2 w

/-- The ways in which two values compare. -/
theorem cmp_ways (b : Bool) (n : Int) (c : Bool) (m : Int) :
    (M.cmpVals ⟨b, n⟩ ⟨c, m⟩ = 2) ∨ (M.cmpVals ⟨b, n⟩ ⟨c, m⟩ = 0 ∧ M.cmpVals ⟨c, m⟩ ⟨b, n⟩ = 0 ∧ b = c ∧ n = m) ∨
    (M.cmpVals ⟨b, n⟩ ⟨c, m⟩ = -1 ∧ M.cmpVals ⟨c, m⟩ ⟨b, n⟩ = 1 ∧ ((b = false ∧ c = false ∧ n ≠ m) ∨ (b = true ∧ c = false))) ∨
    (M.cmpVals ⟨b, n⟩ ⟨c, m⟩ = 1 ∧ M.cmpVals ⟨c, m⟩ ⟨b, n⟩ = -1 ∧ ((b = false ∧ c = false ∧ n ≠ m) ∨ (b = false ∧ c = true))) := by
  rw [cmpVals_eq, cmpVals_eq]
  by_cases h1 : okB b n = true
  · by_cases h2 : okB c m = true
    · rw [if_pos ⟨h1, h2⟩, if_pos ⟨h2, h1⟩]
      cases b <;> cases c
      · by_cases h : n < m
        · rw [cmpV_lt h, cmpV_gt h]
          exact .inr (.inr (.inl ⟨rfl, rfl, .inl ⟨rfl, rfl, by omega⟩⟩))
        · by_cases h' : m < n
          · rw [cmpV_gt h', cmpV_lt h']
            exact .inr (.inr (.inr ⟨rfl, rfl, .inl ⟨rfl, rfl, by omega⟩⟩))
          · obtain rfl : n = m := by omega
            rw [cmpV_eq]
            exact .inr (.inl ⟨rfl, rfl, rfl, rfl⟩)
      · rw [cmpV_fn, cmpV_nf]
        exact .inr (.inr (.inr ⟨rfl, rfl, .inr ⟨rfl, rfl⟩⟩))
      · rw [cmpV_fn, cmpV_nf]
        exact .inr (.inr (.inl ⟨rfl, rfl, .inr ⟨rfl, rfl⟩⟩))
      · rw [cmpV_nn h1 h2, cmpV_nn h2 h1]
        exact .inr (.inl ⟨rfl, rfl, rfl, by rw [okB_nul0 h1, okB_nul0 h2]⟩)
    · exact .inl (by rw [if_neg (fun h => h2 h.2)])
  · exact .inl (by rw [if_neg (fun h => h1 h.1)])

theorem walk_FnValueOrder (a : Option Addr) (len cap : Nat) (zs : List Int) (w : World) (h : IsRow .u8 w a len cap zs) :
    Calls Try.prog 3 #[.slice a len cap] w fun e w' => e = .returned (.bool true) ∧ Below w.heap.size w w' := by
  by_cases hl : (1048576 : Int) < (len : Int)
  · go_enter Try.func3, Try.ntmps3
    go_wp2_with fail
    go_ret
    exact ⟨rfl, Below.refl _ _⟩
  · have hh := Lib.hid h
    clear h
    go_enter Try.func3, Try.ntmps3
    go_wp2_with fail
    refine (DrawCompareValues_any _ a len cap zs hh.out).mono ?_
    rintro e w1 ⟨b, n, c, m, rfl, hb1⟩
    have hz1 := hb1.size
    have hB1 := Lib.hid (B_alloc (B_alloc hb1 (.cells #[.bool b, .int .i64 n] 24)) (.cells #[.bool c, .int .i64 m] 24))
    have hB := Below.refl ((w1.alloc (.cells #[.bool b, .int .i64 n] 24)).alloc (.cells #[.bool c, .int .i64 m] 24)).heap.size ((w1.alloc (.cells #[.bool b, .int .i64 n] 24)).alloc (.cells #[.bool c, .int .i64 m] 24))
    clear hb1 hh
    rcases cmp_ways b n c m with h2 | ⟨hx, hy, rfl, rfl⟩ | ⟨hx, hy, hd⟩ | ⟨hx, hy, hd⟩
    · have k1 := Lib.hid (Compare_lit b n c m _ h2)
      have k2 := Lib.hid (sCompare_lit b n c m _ h2)
      clear h2
      go_wp2_with (first
        | (go_at_call 18; refine (k1.out _).mono ?_; rintro e w2 ⟨rfl, hb⟩; clear k1; replace hB := B_more hB hb; clear hb; (try clear hc hf hz); obtain ⟨hc, hf, hz⟩ := stand (B := w1.heap.size + 2) (hB.mono (by simp)) (by simp))
        | (go_at_call 19; refine (k2.out _).mono ?_; rintro e w2 ⟨rfl, hb⟩; replace hB := B_more hB hb; clear hb; (try clear hc hf hz); obtain ⟨hc, hf, hz⟩ := stand (B := w1.heap.size + 2) (hB.mono (by simp)) (by simp)))
      go_ret
      exact ⟨rfl, B_more hB1.out hB⟩
    · skip
      have k1 := Lib.hid (Compare_lit b n b n _ hx)
      have k2 := Lib.hid (sCompare_lit b n b n _ hx)
      have k3 := Lib.hid (Compare_lit b n b n _ hy)
      clear hx hy
      go_wp2_with (first
        | (go_at_call 18; refine (k1.out _).mono ?_; rintro e w2 ⟨rfl, hb⟩; clear k1; replace hB := B_more hB hb; clear hb; (try clear hc hf hz); obtain ⟨hc, hf, hz⟩ := stand (B := w1.heap.size + 2) (hB.mono (by simp)) (by simp))
        | (go_at_call 19; refine (k2.out _).mono ?_; rintro e w2 ⟨rfl, hb⟩; replace hB := B_more hB hb; clear hb; (try clear hc hf hz); obtain ⟨hc, hf, hz⟩ := stand (B := w1.heap.size + 2) (hB.mono (by simp)) (by simp))
        | (go_at_call 18; refine (k3.out _).mono ?_; rintro e w2 ⟨rfl, hb⟩; replace hB := B_more hB hb; clear hb; (try clear hc hf hz); obtain ⟨hc, hf, hz⟩ := stand (B := w1.heap.size + 2) (hB.mono (by simp)) (by simp)))
      go_ret
      exact ⟨rfl, B_more hB1.out hB⟩
    · rcases hd with ⟨rfl, rfl, hne⟩ | ⟨rfl, rfl⟩
      · have hne' : (n == m) = false := by simpa using hne
        clear hne
        have k1 := Lib.hid (Compare_lit false n false m _ hx)
        have k2 := Lib.hid (sCompare_lit false n false m _ hx)
        have k3 := Lib.hid (Compare_lit false m false n _ hy)
        clear hx hy
        go_wp2_with (first
          | (go_at_call 18; refine (k1.out _).mono ?_; rintro e w2 ⟨rfl, hb⟩; clear k1; replace hB := B_more hB hb; clear hb; (try clear hc hf hz); obtain ⟨hc, hf, hz⟩ := stand (B := w1.heap.size + 2) (hB.mono (by simp)) (by simp))
          | (go_at_call 19; refine (k2.out _).mono ?_; rintro e w2 ⟨rfl, hb⟩; replace hB := B_more hB hb; clear hb; (try clear hc hf hz); obtain ⟨hc, hf, hz⟩ := stand (B := w1.heap.size + 2) (hB.mono (by simp)) (by simp))
          | (go_at_call 18; refine (k3.out _).mono ?_; rintro e w2 ⟨rfl, hb⟩; replace hB := B_more hB hb; clear hb; (try clear hc hf hz); obtain ⟨hc, hf, hz⟩ := stand (B := w1.heap.size + 2) (hB.mono (by simp)) (by simp)))
        go_ret
        exact ⟨rfl, B_more hB1.out hB⟩
      · skip
        have k1 := Lib.hid (Compare_lit true n false m _ hx)
        have k2 := Lib.hid (sCompare_lit true n false m _ hx)
        have k3 := Lib.hid (Compare_lit false m true n _ hy)
        clear hx hy
        go_wp2_with (first
          | (go_at_call 18; refine (k1.out _).mono ?_; rintro e w2 ⟨rfl, hb⟩; clear k1; replace hB := B_more hB hb; clear hb; (try clear hc hf hz); obtain ⟨hc, hf, hz⟩ := stand (B := w1.heap.size + 2) (hB.mono (by simp)) (by simp))
          | (go_at_call 19; refine (k2.out _).mono ?_; rintro e w2 ⟨rfl, hb⟩; replace hB := B_more hB hb; clear hb; (try clear hc hf hz); obtain ⟨hc, hf, hz⟩ := stand (B := w1.heap.size + 2) (hB.mono (by simp)) (by simp))
          | (go_at_call 18; refine (k3.out _).mono ?_; rintro e w2 ⟨rfl, hb⟩; replace hB := B_more hB hb; clear hb; (try clear hc hf hz); obtain ⟨hc, hf, hz⟩ := stand (B := w1.heap.size + 2) (hB.mono (by simp)) (by simp)))
        go_ret
        exact ⟨rfl, B_more hB1.out hB⟩
    · rcases hd with ⟨rfl, rfl, hne⟩ | ⟨rfl, rfl⟩
      · have hne' : (n == m) = false := by simpa using hne
        clear hne
        have k1 := Lib.hid (Compare_lit false n false m _ hx)
        have k2 := Lib.hid (sCompare_lit false n false m _ hx)
        have k3 := Lib.hid (Compare_lit false m false n _ hy)
        clear hx hy
        go_wp2_with (first
          | (go_at_call 18; refine (k1.out _).mono ?_; rintro e w2 ⟨rfl, hb⟩; clear k1; replace hB := B_more hB hb; clear hb; (try clear hc hf hz); obtain ⟨hc, hf, hz⟩ := stand (B := w1.heap.size + 2) (hB.mono (by simp)) (by simp))
          | (go_at_call 19; refine (k2.out _).mono ?_; rintro e w2 ⟨rfl, hb⟩; replace hB := B_more hB hb; clear hb; (try clear hc hf hz); obtain ⟨hc, hf, hz⟩ := stand (B := w1.heap.size + 2) (hB.mono (by simp)) (by simp))
          | (go_at_call 18; refine (k3.out _).mono ?_; rintro e w2 ⟨rfl, hb⟩; replace hB := B_more hB hb; clear hb; (try clear hc hf hz); obtain ⟨hc, hf, hz⟩ := stand (B := w1.heap.size + 2) (hB.mono (by simp)) (by simp)))
        go_ret
        exact ⟨rfl, B_more hB1.out hB⟩
      · skip
        have k1 := Lib.hid (Compare_lit false n true m _ hx)
        have k2 := Lib.hid (sCompare_lit false n true m _ hx)
        have k3 := Lib.hid (Compare_lit true m false n _ hy)
        clear hx hy
        go_wp2_with (first
          | (go_at_call 18; refine (k1.out _).mono ?_; rintro e w2 ⟨rfl, hb⟩; clear k1; replace hB := B_more hB hb; clear hb; (try clear hc hf hz); obtain ⟨hc, hf, hz⟩ := stand (B := w1.heap.size + 2) (hB.mono (by simp)) (by simp))
          | (go_at_call 19; refine (k2.out _).mono ?_; rintro e w2 ⟨rfl, hb⟩; replace hB := B_more hB hb; clear hb; (try clear hc hf hz); obtain ⟨hc, hf, hz⟩ := stand (B := w1.heap.size + 2) (hB.mono (by simp)) (by simp))
          | (go_at_call 18; refine (k3.out _).mono ?_; rintro e w2 ⟨rfl, hb⟩; replace hB := B_more hB hb; clear hb; (try clear hc hf hz); obtain ⟨hc, hf, hz⟩ := stand (B := w1.heap.size + 2) (hB.mono (by simp)) (by simp)))
        go_ret
        exact ⟨rfl, B_more hB1.out hB⟩
end Go.Proofs.Ytimmglcjjbmpdaa
