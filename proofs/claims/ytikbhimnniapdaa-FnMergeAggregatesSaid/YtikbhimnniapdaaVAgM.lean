/-
  Aggregates of values: what they are. Plain definitions.
-/
import Derived.Test.YtikbhimnniapdaaVSem
namespace Go.Proofs.Ytikbhimnniapdaa
open Go.RowKit

/-- The numbers among values. -/
def nums (vs : List V) : List Int := (vs.filter (fun v => !v.b)).map V.n
theorem nums_append (a b : List V) : nums (a ++ b) = nums a ++ nums b := by unfold nums; rw [List.filter_append, List.map_append]
theorem nums_t {vs : List V} {i : Nat} {v : V} (h : vs[i]? = some v) (hb : v.b = true) : nums (vs.take (i + 1)) = nums (vs.take i) := by
  rw [take_next h, nums_append]
  unfold nums
  simp [hb]
theorem nums_f {vs : List V} {i : Nat} {v : V} (h : vs[i]? = some v) (hb : v.b = false) : nums (vs.take (i + 1)) = nums (vs.take i) ++ [v.n] := by
  rw [take_next h, nums_append]
  unfold nums
  simp [hb]
theorem nums_len (vs : List V) : (nums vs).length ≤ vs.length := by unfold nums; rw [List.length_map]; exact List.length_filter_le _ _
def sumI : List Int → Int
  | [] => 0
  | n :: l => n + sumI l
theorem sumI_append : ∀ a b : List Int, sumI (a ++ b) = sumI a + sumI b
  | [], b => by rw [List.nil_append, sumI, Int.zero_add]
  | n :: a, b => by rw [List.cons_append, sumI, sumI, sumI_append a b, Int.add_assoc]
theorem sumI_one (n : Int) : sumI [n] = n := by rw [sumI, sumI, Int.add_zero]
/-- All are within the bounds. -/
def inB (l : List Int) : Prop := ∀ n, n ∈ l → -9999 ≤ n ∧ n ≤ 9999
theorem sumI_bound : ∀ l : List Int, inB l → -9999 * (l.length : Int) ≤ sumI l ∧ sumI l ≤ 9999 * (l.length : Int)
  | [], _ => by rw [sumI]; exact ⟨by simp, by simp⟩
  | n :: l, h => by
    have h1 := sumI_bound l (fun m hm => h m (List.mem_cons_of_mem _ hm))
    have h2 := h n (List.mem_cons_self ..)
    rw [sumI, List.length_cons]
    omega
theorem inB_take {l : List Int} (h : inB l) (i : Nat) : inB (l.take i) := fun n hn => h n (List.mem_of_mem_take hn)
def valsOk (vs : List V) : Prop := ∀ v, v ∈ vs → v.ok
noncomputable instance valsOkDec (vs : List V) : Decidable (valsOk vs) := Classical.propDecidable _
theorem nums_mem {vs : List V} {n : Int} : n ∈ nums vs ↔ ∃ v, v ∈ vs ∧ v.b = false ∧ v.n = n := by
  unfold nums
  rw [List.mem_map]
  constructor
  · rintro ⟨v, hv, rfl⟩
    rw [List.mem_filter] at hv
    exact ⟨v, hv.1, by simpa using hv.2, rfl⟩
  · rintro ⟨v, hv, hb, rfl⟩
    exact ⟨v, List.mem_filter.2 ⟨hv, by simp [hb]⟩, rfl⟩
theorem nums_inB {vs : List V} (h : valsOk vs) : inB (nums vs) := fun n hn => by
  obtain ⟨v, hv, _, rfl⟩ := nums_mem.1 hn
  exact ⟨(h v hv).lo, (h v hv).hi⟩
/-- The smallest and the largest, null if there are none. -/
def lowS1 (s : V) (n : Int) : V := if s.b = true ∨ n < s.n then ⟨false, n⟩ else s
def highS1 (s : V) (n : Int) : V := if s.b = true ∨ s.n < n then ⟨false, n⟩ else s
def lowS (l : List Int) : V := l.foldl lowS1 ⟨true, 0⟩
def highS (l : List Int) : V := l.foldl highS1 ⟨true, 0⟩
theorem lowS_nil : lowS [] = ⟨true, 0⟩ := rfl
theorem highS_nil : highS [] = ⟨true, 0⟩ := rfl
theorem lowS_snoc (l : List Int) (n : Int) : lowS (l ++ [n]) = lowS1 (lowS l) n := by unfold lowS; rw [List.foldl_append]; rfl
theorem highS_snoc (l : List Int) (n : Int) : highS (l ++ [n]) = highS1 (highS l) n := by unfold highS; rw [List.foldl_append]; rfl
theorem snoc_ind {p : List Int → Prop} (h0 : p []) (h : ∀ l n, p l → p (l ++ [n])) : ∀ l, p l := by
  have key : ∀ l : List Int, p l.reverse := by
    intro l
    induction l with
    | nil => exact h0
    | cons n l ih => rw [List.reverse_cons]; exact h _ n ih
  intro l
  have := key l.reverse
  rwa [List.reverse_reverse] at this
structure IsLow (l : List Int) : Prop where
  b : (lowS l).b = false
  le : ∀ n, n ∈ l → (lowS l).n ≤ n
  mem : (lowS l).n ∈ l
structure IsHigh (l : List Int) : Prop where
  b : (highS l).b = false
  le : ∀ n, n ∈ l → n ≤ (highS l).n
  mem : (highS l).n ∈ l
theorem isLow (l : List Int) : l ≠ [] → IsLow l := by
  refine snoc_ind (p := fun l => l ≠ [] → IsLow l) (fun h => absurd rfl h) (fun l n ih _ => ?_) l
  by_cases hl : l = []
  · subst hl
    exact ⟨rfl, fun m hm => by obtain rfl : m = n := by simpa using hm
                               exact Int.le_refl _, List.mem_cons_self ..⟩
  · obtain ⟨hb, hle, hm⟩ := ih hl
    have e := lowS_snoc l n
    by_cases h : n < (lowS l).n
    · rw [lowS1, if_pos (Or.inr h)] at e
      exact ⟨by rw [e], fun m hm' => by
        rw [e]
        show n ≤ m
        rcases List.mem_append.1 hm' with h1 | h1
        · have := hle m h1; omega
        · obtain rfl : m = n := by simpa using h1
          exact Int.le_refl _, by rw [e]; simp⟩
    · rw [lowS1, if_neg (by rw [hb]; simp; omega)] at e
      exact ⟨by rw [e]; exact hb, fun m hm' => by
        rw [e]
        rcases List.mem_append.1 hm' with h1 | h1
        · exact hle m h1
        · obtain rfl : m = n := by simpa using h1
          omega, by rw [e]; exact List.mem_append_left _ hm⟩
theorem isHigh (l : List Int) : l ≠ [] → IsHigh l := by
  refine snoc_ind (p := fun l => l ≠ [] → IsHigh l) (fun h => absurd rfl h) (fun l n ih _ => ?_) l
  by_cases hl : l = []
  · subst hl
    exact ⟨rfl, fun m hm => by obtain rfl : m = n := by simpa using hm
                               exact Int.le_refl _, List.mem_cons_self ..⟩
  · obtain ⟨hb, hle, hm⟩ := ih hl
    have e := highS_snoc l n
    by_cases h : (highS l).n < n
    · rw [highS1, if_pos (Or.inr h)] at e
      exact ⟨by rw [e], fun m hm' => by
        rw [e]
        show m ≤ n
        rcases List.mem_append.1 hm' with h1 | h1
        · have := hle m h1; omega
        · obtain rfl : m = n := by simpa using h1
          exact Int.le_refl _, by rw [e]; simp⟩
    · rw [highS1, if_neg (by rw [hb]; simp; omega)] at e
      exact ⟨by rw [e]; exact hb, fun m hm' => by
        rw [e]
        rcases List.mem_append.1 hm' with h1 | h1
        · exact hle m h1
        · obtain rfl : m = n := by simpa using h1
          omega, by rw [e]; exact List.mem_append_left _ hm⟩
theorem V.eq {a b : V} (h1 : a.b = b.b) (h2 : a.n = b.n) : a = b := by cases a; cases b; cases h1; cases h2; rfl
theorem num_of {v : V} (h : v.b = false) (h0 : -9999 ≤ v.n) (h1 : v.n ≤ 9999) : num v.n = v := by
  unfold num
  rw [if_pos ⟨h0, h1⟩]
  exact V.eq h.symm rfl
/-- What an aggregate is. -/
def aggV (vs : List V) (k : Int) : V :=
  if k = 1 then num vs.length else if k = 2 then num (nums vs).length else if nums vs = [] then ⟨true, 0⟩ else if k = 3 then num (sumI (nums vs)) else if k = 4 then lowS (nums vs) else highS (nums vs)
theorem aggV_1 (vs : List V) : aggV vs 1 = num vs.length := rfl
theorem aggV_2 (vs : List V) : aggV vs 2 = num (nums vs).length := rfl
theorem aggV_nil {vs : List V} {k : Int} (h1 : k ≠ 1) (h2 : k ≠ 2) (h : nums vs = []) : aggV vs k = ⟨true, 0⟩ := by unfold aggV; rw [if_neg h1, if_neg h2, if_pos h]
theorem aggV_3 {vs : List V} (h : nums vs ≠ []) : aggV vs 3 = num (sumI (nums vs)) := by unfold aggV; rw [if_neg (by decide), if_neg (by decide), if_neg h, if_pos rfl]
theorem aggV_4 (vs : List V) : aggV vs 4 = lowS (nums vs) := by
  unfold aggV
  rw [if_neg (by decide), if_neg (by decide)]
  split
  · rename_i h; rw [h]; rfl
  · rw [if_neg (by decide), if_pos rfl]
theorem aggV_5 {vs : List V} {k : Int} (h1 : k ≠ 1) (h2 : k ≠ 2) (h3 : k ≠ 3) (h4 : k ≠ 4) : aggV vs k = highS (nums vs) := by
  unfold aggV
  rw [if_neg h1, if_neg h2]
  split
  · rename_i h; rw [h]; rfl
  · first | rfl | rw [if_neg h3, if_neg h4]
/-- Arguments of which there is an aggregate. -/
def aggOk (vs : List V) (k : Int) : Prop := valsOk vs ∧ vs.length ≤ 400 ∧ 1 ≤ k ∧ k ≤ 5
noncomputable instance aggOkDec (vs : List V) (k : Int) : Decidable (aggOk vs k) := Classical.propDecidable _
theorem two_okS {a b : V} (ha : a.ok) (hb : b.ok) : valsOk [a, b] := fun v hv => by
  rcases List.mem_cons.1 hv with rfl | hv
  · exact ha
  · obtain rfl : v = b := by simpa using hv
    exact hb
/-- The aggregate that merges. -/
def mrg (k : Int) : Int := if k ≤ 3 then 3 else k
theorem low_num {vs : List V} (h : valsOk vs) (hn : nums vs ≠ []) : num (lowS (nums vs)).n = lowS (nums vs) := by
  have h1 := isLow _ hn
  have h2 := nums_inB h _ h1.mem
  exact num_of h1.b h2.1 h2.2
theorem high_num {vs : List V} (h : valsOk vs) (hn : nums vs ≠ []) : num (highS (nums vs)).n = highS (nums vs) := by
  have h1 := isHigh _ hn
  have h2 := nums_inB h _ h1.mem
  exact num_of h1.b h2.1 h2.2
end Go.Proofs.Ytikbhimnniapdaa
