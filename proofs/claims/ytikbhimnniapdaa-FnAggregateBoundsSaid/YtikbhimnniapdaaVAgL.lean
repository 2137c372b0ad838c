/-
  Aggregates of parts and of the whole. Plain facts.
-/
import Derived.Test.YtikbhimnniapdaaVAgM
set_option linter.unusedVariables false
namespace Go.Proofs.Ytikbhimnniapdaa
open Go.RowKit

theorem low_eq {l : List Int} {m : Int} (hm : m ∈ l) (h : ∀ n, n ∈ l → m ≤ n) : lowS l = ⟨false, m⟩ := by
  have h1 := isLow l (fun e => by subst e; cases hm)
  have h2 := h1.le m hm
  have h3 := h _ h1.mem
  exact V.eq h1.b (by show (lowS l).n = m; omega)
theorem high_eq {l : List Int} {m : Int} (hm : m ∈ l) (h : ∀ n, n ∈ l → n ≤ m) : highS l = ⟨false, m⟩ := by
  have h1 := isHigh l (fun e => by subst e; cases hm)
  have h2 := h1.le m hm
  have h3 := h _ h1.mem
  exact V.eq h1.b (by show (highS l).n = m; omega)
theorem num_n {n : Int} (h0 : -9999 ≤ n) (h1 : n ≤ 9999) : num n = ⟨false, n⟩ := if_pos ⟨h0, h1⟩
theorem nums_two (a b : V) : nums [a, b] = (if a.b then [] else [a.n]) ++ (if b.b then [] else [b.n]) := by
  unfold nums
  cases ha : a.b <;> cases hb : b.b <;> simp [ha, hb]
/-- The sum of the absolute values. -/
def totA : List V → Int
  | [] => 0
  | v :: l => max v.n (0 - v.n) + totA l
theorem totA_append : ∀ a b : List V, totA (a ++ b) = totA a + totA b
  | [], b => by rw [List.nil_append, totA, Int.zero_add]
  | n :: a, b => by rw [List.cons_append, totA, totA, totA_append a b, Int.add_assoc]
theorem totA_one (v : V) : totA [v] = max v.n (0 - v.n) := by rw [totA, totA, Int.add_zero]
theorem totA_bound : ∀ l : List V, valsOk l → 0 ≤ totA l ∧ totA l ≤ 9999 * (l.length : Int)
  | [], _ => by rw [totA]; exact ⟨by simp, by simp⟩
  | v :: l, h => by
    have h1 := totA_bound l (fun m hm => h m (List.mem_cons_of_mem _ hm))
    have h2 := h v (List.mem_cons_self ..)
    have h3 := h2.lo
    have h4 := h2.hi
    rw [totA, List.length_cons]
    omega
theorem sum_tot : ∀ l : List V, - totA l ≤ sumI (nums l) ∧ sumI (nums l) ≤ totA l
  | [] => by show -0 ≤ (0 : Int) ∧ (0 : Int) ≤ 0; omega
  | v :: l => by
    have h1 := sum_tot l
    have h2 := nums_append [v] l
    rw [show [v] ++ l = v :: l from rfl] at h2
    rw [h2, sumI_append, totA]
    cases hb : v.b with
    | true =>
      have e : nums [v] = [] := by unfold nums; simp [hb]
      rw [e, sumI]
      omega
    | false =>
      have e : nums [v] = [v.n] := by unfold nums; simp [hb]
      rw [e, sumI_one]
      omega
theorem valsOk_app {a b : List V} (h : valsOk (a ++ b)) : valsOk a ∧ valsOk b := ⟨fun v hv => h v (List.mem_append_left _ hv), fun v hv => h v (List.mem_append_right _ hv)⟩
theorem low_range {l : List Int} (hb : inB l) (h : l ≠ []) : (lowS l).b = false ∧ -9999 ≤ (lowS l).n ∧ (lowS l).n ≤ 9999 := by
  have h1 := isLow l h
  have h2 := hb _ h1.mem
  exact ⟨h1.b, h2.1, h2.2⟩
theorem aggV_ok {vs : List V} (hv : valsOk vs) (hl : vs.length ≤ 400) {k : Int} (hk : 1 ≤ k ∧ k ≤ 5) : (aggV vs k).ok := by
  have hnl := nums_len vs
  by_cases h1 : k = 1
  · subst h1; rw [aggV_1]; exact num_ok _
  by_cases h2 : k = 2
  · subst h2; rw [aggV_2]; exact num_ok _
  by_cases h0 : nums vs = []
  · rw [aggV_nil h1 h2 h0]; exact ⟨by decide, by decide, fun _ => rfl⟩
  by_cases h3 : k = 3
  · subst h3; rw [aggV_3 h0]; exact num_ok _
  by_cases h4 : k = 4
  · subst h4; rw [aggV_4, ← low_num hv h0]; exact num_ok _
  · rw [aggV_5 h1 h2 h3 h4, ← high_num hv h0]; exact num_ok _
/-- The aggregates of two parts, merged, are that of the whole. -/
theorem merge_parts (l1 l2 : List V) (hv : valsOk (l1 ++ l2)) (hl : (l1 ++ l2).length ≤ 400) {k : Int} (hk : 1 ≤ k ∧ k ≤ 5) (ht : totA (l1 ++ l2) ≤ 9999) : aggV [aggV l1 k, aggV l2 k] (mrg k) = aggV (l1 ++ l2) k := by
  obtain ⟨hv1, hv2⟩ := valsOk_app hv
  have hla := List.length_append (as := l1) (bs := l2)
  have n1 := nums_len l1
  have n2 := nums_len l2
  have hna := nums_append l1 l2
  have t1 := totA_bound l1 hv1
  have t2 := totA_bound l2 hv2
  have ta := totA_append l1 l2
  have s1 := sum_tot l1
  have s2 := sum_tot l2
  have i1 := nums_inB hv1
  have i2 := nums_inB hv2
  rcases (show k = 1 ∨ k = 2 ∨ k = 3 ∨ k = 4 ∨ k = 5 by omega) with rfl | rfl | rfl | rfl | rfl
  · rw [show mrg 1 = 3 from rfl, aggV_1, aggV_1, aggV_1, num_n (by omega) (by omega), num_n (by omega) (by omega)]
    have e : nums [(⟨false, (l1.length : Int)⟩ : V), ⟨false, (l2.length : Int)⟩] = [(l1.length : Int), l2.length] := rfl
    rw [aggV_3 (by rw [e]; simp), e, sumI, sumI_one, hla]
    congr 1
  · rw [show mrg 2 = 3 from rfl, aggV_2, aggV_2, aggV_2, num_n (by omega) (by omega), num_n (by omega) (by omega)]
    have e : nums [(⟨false, ((nums l1).length : Int)⟩ : V), ⟨false, ((nums l2).length : Int)⟩] = [((nums l1).length : Int), (nums l2).length] := rfl
    rw [aggV_3 (by rw [e]; simp), e, sumI, sumI_one, hna, List.length_append]
    congr 1
  · rw [show mrg 3 = 3 from rfl]
    by_cases h1 : nums l1 = []
    · by_cases h2 : nums l2 = []
      · rw [aggV_nil (by decide) (by decide) h1, aggV_nil (by decide) (by decide) h2, aggV_nil (vs := l1 ++ l2) (by decide) (by decide) (by rw [hna, h1, h2]; rfl)]
        rfl
      · rw [h1, List.nil_append] at hna
        rw [aggV_nil (by decide) (by decide) h1, aggV_3 h2, aggV_3 (vs := l1 ++ l2) (by rw [hna]; exact h2), hna, num_n (by omega) (by omega)]
        rw [aggV_3 (by simp [nums])]
        show num (sumI [sumI (nums l2)]) = _
        rw [sumI_one, num_n (by omega) (by omega)]
    · by_cases h2 : nums l2 = []
      · rw [h2, List.append_nil] at hna
        rw [aggV_nil (by decide) (by decide) h2, aggV_3 h1, aggV_3 (vs := l1 ++ l2) (by rw [hna]; exact h1), hna, num_n (by omega) (by omega)]
        rw [aggV_3 (by simp [nums])]
        show num (sumI [sumI (nums l1)]) = _
        rw [sumI_one, num_n (by omega) (by omega)]
      · rw [aggV_3 h1, aggV_3 h2, aggV_3 (vs := l1 ++ l2) (by rw [hna]; simp [h1]), hna, sumI_append, num_n (n := sumI (nums l1)) (by omega) (by omega), num_n (n := sumI (nums l2)) (by omega) (by omega)]
        rw [aggV_3 (by simp [nums])]
        show num (sumI [sumI (nums l1), sumI (nums l2)]) = _
        rw [sumI, sumI_one]
  · rw [show mrg 4 = 4 from rfl, aggV_4, aggV_4, aggV_4, aggV_4, hna]
    by_cases h1 : nums l1 = []
    · rw [h1, List.nil_append, lowS_nil, nums_two]
      by_cases h2 : nums l2 = []
      · rw [h2]; rfl
      · have e := isLow _ h2
        rw [e.b]
        exact (low_eq (List.mem_cons_self ..) (fun n hn => by obtain rfl : n = _ := by simpa using hn
                                                              exact Int.le_refl _)).trans (V.eq e.b.symm rfl)
    · have e1 := isLow _ h1
      by_cases h2 : nums l2 = []
      · rw [h2, List.append_nil, lowS_nil, nums_two, e1.b]
        exact (low_eq (List.mem_cons_self ..) (fun n hn => by obtain rfl : n = _ := by simpa using hn
                                                              exact Int.le_refl _)).trans (V.eq e1.b.symm rfl)
      · have e2 := isLow _ h2
        rw [nums_two, e1.b, e2.b]
        show lowS [(lowS (nums l1)).n, (lowS (nums l2)).n] = _
        by_cases hc : (lowS (nums l1)).n ≤ (lowS (nums l2)).n
        · rw [low_eq (m := (lowS (nums l1)).n) (List.mem_cons_self ..) (fun n hn => by
            rcases List.mem_cons.1 hn with rfl | hn
            · exact Int.le_refl _
            · obtain rfl : n = _ := by simpa using hn
              exact hc)]
          refine (low_eq (List.mem_append_left _ e1.mem) (fun n hn => ?_)).symm
          rcases List.mem_append.1 hn with hn | hn
          · exact e1.le n hn
          · have := e2.le n hn; omega
        · rw [low_eq (m := (lowS (nums l2)).n) (by simp) (fun n hn => by
            rcases List.mem_cons.1 hn with rfl | hn
            · omega
            · obtain rfl : n = _ := by simpa using hn
              exact Int.le_refl _)]
          refine (low_eq (List.mem_append_right _ e2.mem) (fun n hn => ?_)).symm
          rcases List.mem_append.1 hn with hn | hn
          · have := e1.le n hn; omega
          · exact e2.le n hn
  · have a5 : ∀ vs, aggV vs 5 = highS (nums vs) := fun vs => aggV_5 (by decide) (by decide) (by decide) (by decide)
    rw [show mrg 5 = 5 from rfl, a5, a5, a5, a5, hna]
    by_cases h1 : nums l1 = []
    · rw [h1, List.nil_append, highS_nil, nums_two]
      by_cases h2 : nums l2 = []
      · rw [h2]; rfl
      · have e := isHigh _ h2
        rw [e.b]
        exact (high_eq (List.mem_cons_self ..) (fun n hn => by obtain rfl : n = _ := by simpa using hn
                                                               exact Int.le_refl _)).trans (V.eq e.b.symm rfl)
    · have e1 := isHigh _ h1
      by_cases h2 : nums l2 = []
      · rw [h2, List.append_nil, highS_nil, nums_two, e1.b]
        exact (high_eq (List.mem_cons_self ..) (fun n hn => by obtain rfl : n = _ := by simpa using hn
                                                               exact Int.le_refl _)).trans (V.eq e1.b.symm rfl)
      · have e2 := isHigh _ h2
        rw [nums_two, e1.b, e2.b]
        show highS [(highS (nums l1)).n, (highS (nums l2)).n] = _
        by_cases hc : (highS (nums l2)).n ≤ (highS (nums l1)).n
        · rw [high_eq (m := (highS (nums l1)).n) (List.mem_cons_self ..) (fun n hn => by
            rcases List.mem_cons.1 hn with rfl | hn
            · exact Int.le_refl _
            · obtain rfl : n = _ := by simpa using hn
              exact hc)]
          refine (high_eq (List.mem_append_left _ e1.mem) (fun n hn => ?_)).symm
          rcases List.mem_append.1 hn with hn | hn
          · exact e1.le n hn
          · have := e2.le n hn; omega
        · rw [high_eq (m := (highS (nums l2)).n) (by simp) (fun n hn => by
            rcases List.mem_cons.1 hn with rfl | hn
            · omega
            · obtain rfl : n = _ := by simpa using hn
              exact Int.le_refl _)]
          refine (high_eq (List.mem_append_right _ e2.mem) (fun n hn => ?_)).symm
          rcases List.mem_append.1 hn with hn | hn
          · have := e1.le n hn; omega
          · exact e2.le n hn
theorem mrg345 {k : Int} (hk : 1 ≤ k ∧ k ≤ 5) : mrg k = 3 ∨ mrg k = 4 ∨ mrg k = 5 := by unfold mrg; split <;> omega
/-- Merging with null. -/
theorem merge_null {a : V} (ha : a.ok) {k : Int} (hk : 1 ≤ k ∧ k ≤ 5) : aggV [a, ⟨true, 0⟩] (mrg k) = a := by
  have h1 := ha.lo
  have h2 := ha.hi
  cases hb : a.b with
  | true =>
    have e : nums [a, ⟨true, 0⟩] = [] := by rw [nums_two, hb]; rfl
    rw [aggV_nil (by rcases mrg345 hk with h | h | h <;> omega) (by rcases mrg345 hk with h | h | h <;> omega) e]
    exact V.eq hb.symm (ha.nul hb).symm
  | false =>
    have e : nums [a, ⟨true, 0⟩] = [a.n] := by rw [nums_two, hb]; rfl
    rcases mrg345 hk with h | h | h
    · rw [h, aggV_3 (by rw [e]; simp), e, sumI_one, num_n h1 h2]
      exact V.eq hb.symm rfl
    · rw [h, aggV_4, e]
      exact V.eq hb.symm rfl
    · rw [h, aggV_5 (by decide) (by decide) (by decide) (by decide), e]
      exact V.eq hb.symm rfl
theorem low_pair (x y : Int) : lowS [x, y] = lowS [y, x] := by
  by_cases h : x ≤ y
  · exact (low_eq (m := x) (by simp) (fun n hn => by simp at hn; omega)).trans (low_eq (m := x) (by simp) (fun n hn => by simp at hn; omega)).symm
  · exact (low_eq (m := y) (by simp) (fun n hn => by simp at hn; omega)).trans (low_eq (m := y) (by simp) (fun n hn => by simp at hn; omega)).symm
theorem high_pair (x y : Int) : highS [x, y] = highS [y, x] := by
  by_cases h : x ≤ y
  · exact (high_eq (m := y) (by simp) (fun n hn => by simp at hn; omega)).trans (high_eq (m := y) (by simp) (fun n hn => by simp at hn; omega)).symm
  · exact (high_eq (m := x) (by simp) (fun n hn => by simp at hn; omega)).trans (high_eq (m := x) (by simp) (fun n hn => by simp at hn; omega)).symm
theorem merge_comm (a b : V) {k : Int} (hk : 1 ≤ k ∧ k ≤ 5) : aggV [b, a] (mrg k) = aggV [a, b] (mrg k) := by
  have ea := nums_two a b
  have eb := nums_two b a
  have key : nums [a, b] = nums [b, a] ∨ ∃ x y, nums [a, b] = [x, y] ∧ nums [b, a] = [y, x] := by
    rw [ea, eb]
    cases a.b <;> cases b.b <;> simp
    exact Or.inr ⟨_, _, ⟨rfl, rfl⟩, rfl, rfl⟩
  rcases key with h | ⟨x, y, h1, h2⟩
  · unfold aggV
    rw [h]
    rfl
  · rcases mrg345 hk with h | h | h
    · rw [h, aggV_3 (by rw [h2]; simp), aggV_3 (by rw [h1]; simp), h1, h2, sumI, sumI_one, sumI, sumI_one, Int.add_comm]
    · rw [h, aggV_4, aggV_4, h1, h2, low_pair]
    · rw [h, aggV_5 (by decide) (by decide) (by decide) (by decide), aggV_5 (by decide) (by decide) (by decide) (by decide), h1, h2, high_pair]
/-- The values that are not null. -/
def fewL (vs : List V) : List V := vs.filter (fun v => !v.b)
theorem fewL_t {vs : List V} {i : Nat} {v : V} (h : vs[i]? = some v) (hb : v.b = true) : fewL (vs.take (i + 1)) = fewL (vs.take i) := by
  rw [take_next h]
  unfold fewL
  rw [List.filter_append]
  simp [hb]
theorem fewL_f {vs : List V} {i : Nat} {v : V} (h : vs[i]? = some v) (hb : v.b = false) : fewL (vs.take (i + 1)) = fewL (vs.take i) ++ [v] := by
  rw [take_next h]
  unfold fewL
  rw [List.filter_append]
  simp [hb]
theorem few_len (vs : List V) : (fewL vs).length = (nums vs).length := by unfold fewL nums; rw [List.length_map]
theorem few_nums (vs : List V) : nums (fewL vs) = nums vs := by unfold fewL nums; rw [List.filter_filter]; simp
theorem few_ok {vs : List V} (h : valsOk vs) : valsOk (fewL vs) := fun v hv => h v (List.mem_filter.1 hv).1
theorem few_agg {vs : List V} {k : Int} (hk : k ≠ 1) : aggV (fewL vs) k = aggV vs k := by
  unfold aggV
  rw [if_neg hk, if_neg hk, few_nums]
/-- Whether a value occurs. -/
def hasV (l : List V) (w : V) : Bool := l.any fun v => v.b == w.b && v.n == w.n
theorem hasV_next {vs : List V} {i : Nat} {v : V} (h : vs[i]? = some v) (w : V) : hasV (vs.take (i + 1)) w = (hasV (vs.take i) w || (v.b == w.b && v.n == w.n)) := by
  unfold hasV
  rw [take_next h, List.any_append]
  simp
theorem hasV_t {vs : List V} {w : V} {n : Int} (hn : n ∈ nums vs) (hw : w = ⟨false, n⟩) : hasV vs w = true := by
  obtain ⟨v, hv, hb, rfl⟩ := nums_mem.1 hn
  subst hw
  unfold hasV
  rw [List.any_eq_true]
  exact ⟨v, hv, by simp [hb]⟩
end Go.Proofs.Ytikbhimnniapdaa
