/-
  How often rows occur in sorted lists. Plain lemmas.
-/
import Derived.Test.YtldkjccccjiihaaVCntM
import Derived.Test.YtldkjccccjiihaaVSrt
set_option linter.unusedVariables false
namespace Go.Proofs.Ytldkjccccjiihaa
open Go.RowKit

theorem cntE_perm {row : List V} {l m : List (List V)} (h : l.Perm m) : cntE row l = cntE row m := by
  unfold cntE
  exact (h.filter _).length_eq
theorem cntE_pos {row : List V} {l : List (List V)} : 0 < cntE row l ↔ row ∈ l := by
  unfold cntE
  rw [List.length_pos_iff_exists_mem]
  constructor
  · rintro ⟨a, ha⟩
    have h := List.mem_filter.1 ha
    have e : a = row := cmpR_eq (by simpa using h.2)
    exact e ▸ h.1
  · intro h
    exact ⟨row, List.mem_filter.2 ⟨h, by simpa using cmpR_self row⟩⟩
theorem cntE_same (row : List V) (l : List (List V)) : cntE row (row :: l) = cntE row l + 1 := by
  unfold cntE
  rw [List.filter_cons, if_pos (by simpa using cmpR_self row), List.length_cons]
theorem cntE_ne {row x : List V} (h : x ≠ row) (l : List (List V)) : cntE row (x :: l) = cntE row l := by
  unfold cntE
  rw [List.filter_cons, if_neg (fun e => h (cmpR_eq (by simpa using e)))]
theorem cntE_two' (row x : List V) (l m : List (List V)) (h : cntE row (x :: l) = cntE row (x :: m)) : cntE row l = cntE row m := by
  by_cases e : x = row
  · subst e
    rw [cntE_same, cntE_same] at h
    omega
  · rwa [cntE_ne e, cntE_ne e] at h
theorem perm_of_cnt : ∀ {l m : List (List V)}, (∀ r, cntE r l = cntE r m) → l.Perm m
  | [], m, h => by
    cases m with
    | nil => exact List.Perm.refl _
    | cons x m =>
      have := h x
      rw [cntE_same] at this
      have h0 : cntE x [] = 0 := rfl
      omega
  | x :: l, m, h => by
    have hx : x ∈ m := by
      rw [← cntE_pos, ← h x, cntE_same]
      omega
    obtain ⟨s, t, rfl⟩ := List.append_of_mem hx
    have hp : (s ++ x :: t).Perm (x :: (s ++ t)) := List.perm_middle
    refine List.Perm.trans (List.Perm.cons x (perm_of_cnt fun r => ?_)) hp.symm
    have := h r
    rw [cntE_perm hp] at this
    exact cntE_two' r x l (s ++ t) this
/-- Sorted lists with the same counts are equal. -/
theorem asc_unique {w : Nat} {l m : List (List V)} (hm : RsW w m) (al : Asc l) (am : Asc m) (h : ∀ r, cntE r l = cntE r m) : l = m := by
  rw [srt_unique hm (perm_of_cnt h) al, srt_of_asc hm am]
theorem asc_sub {l m : List (List V)} (h : l.Sublist m) (am : Asc m) : Asc l := am.sublist h
theorem rsw_sub {w : Nat} {l m : List (List V)} (h : l.Sublist m) (hm : RsW w m) : RsW w l := fun r hr => hm r (h.subset hr)
theorem rsw_app {w : Nat} {l m : List (List V)} (hl : RsW w l) (hm : RsW w m) : RsW w (l ++ m) := fun r hr => by
  rcases List.mem_append.1 hr with h | h
  · exact hl r h
  · exact hm r h
theorem cntE_srt (row : List V) (l : List (List V)) : cntE row (srt l) = cntE row l := cntE_perm (srt_perm l)
theorem nil_of_cnt {l : List (List V)} (h : ∀ r, cntE r l = 0) : l = [] := by
  cases l with
  | nil => rfl
  | cons x l =>
    have := h x
    rw [cntE_same] at this
    omega
theorem cnt_sum_len {l m : List (List V)} (h : ∀ r, cntE r l = cntE r m) : l.length = m.length := (perm_of_cnt h).length_eq
end Go.Proofs.Ytldkjccccjiihaa
