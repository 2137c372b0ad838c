/-
  What the steps of a derivation do. No condition.
-/
import Derived.Test.YtnemkgclkbhjkaaVDepM
set_option maxHeartbeats 4000000
set_option maxRecDepth 100000
set_option linter.unusedVariables false
set_option linter.unusedSimpArgs false
namespace Go.Proofs.Ytnemkgclkbhjkaa
open Go.RowKit

theorem dv_eq (l : List De) (s : Int) : ∃ n, dv l s = ix l s n ∧ cl l s = itd l s n := ⟨64, by unfold dv; exact rfl, by unfold cl; exact rfl⟩
theorem tOf_j {l : List De} {j : Nat} {x : De} (hx : l[j]? = some x) : tOf l (j : Int) = x.t := by
  unfold tOf
  rw [Int.toNat_natCast, hx]
theorem fi_run (l : List De) (s : Int) : ∀ j, j ≤ l.length → run l (fi l s j) s = fold (l.take j) s
  | 0, _ => by rw [List.take_zero]; rfl
  | j + 1, hj => by
    have hx : l[j]? = some l[j] := List.getElem?_eq_getElem (by omega)
    have ih := fi_run l s j (by omega)
    by_cases hf : fires l[j] (fold (l.take j) s)
    · rw [fi_t hx hf, run_append, ih, fold_next hx, stp_t hf, ← tOf_j hx]
      rfl
    · rw [fi_f hx hf, ih, fold_next hx, stp_f hf]
theorem fi_good (l : List De) (s : Int) : ∀ j, j ≤ l.length → good l (fi l s j) s
  | 0, _ => trivial
  | j + 1, hj => by
    have hx : l[j]? = some l[j] := List.getElem?_eq_getElem (by omega)
    have ih := fi_good l s j (by omega)
    by_cases hf : fires l[j] (fold (l.take j) s)
    · rw [fi_t hx hf, good_append]
      refine ⟨ih, ⟨⟨by omega, by omega⟩, fun d hd => ?_⟩, trivial⟩
      rw [Int.toNat_natCast, hx] at hd
      cases hd
      rw [fi_run l s j (by omega)]
      exact hf.1
    · rw [fi_f hx hf]
      exact ih
theorem ix_run (l : List De) (s : Int) : ∀ n, run l (ix l s n) s = itd l s n
  | 0 => rfl
  | n + 1 => by
    show run l (ix l s n ++ fi l (itd l s n) l.length) s = fold l (itd l s n)
    rw [run_append, ix_run l s n, fi_run l _ l.length (Nat.le_refl _), fold_end]
theorem ix_good (l : List De) (s : Int) : ∀ n, good l (ix l s n) s
  | 0 => trivial
  | n + 1 => by
    show good l (ix l s n ++ fi l (itd l s n) l.length) s
    rw [good_append, ix_run]
    exact ⟨ix_good l s n, fi_good l _ l.length (Nat.le_refl _)⟩
/-- Steps each of which adds something. -/
def fresh (l : List De) : List Int → Int → Prop
  | [], _ => True
  | i :: q, s => ¬ sub (tOf l i) s ∧ fresh l q (bor s (tOf l i))
theorem fresh_append (l : List De) : ∀ (a b : List Int) (s : Int), fresh l (a ++ b) s ↔ fresh l a s ∧ fresh l b (run l a s)
  | [], b, s => ⟨fun h => ⟨trivial, h⟩, fun h => h.2⟩
  | i :: a, b, s => by
    show ¬ sub (tOf l i) s ∧ fresh l (a ++ b) (bor s (tOf l i)) ↔ (¬ sub (tOf l i) s ∧ fresh l a (bor s (tOf l i))) ∧ fresh l b (run l a (bor s (tOf l i)))
    rw [fresh_append l a b]
    exact ⟨fun ⟨x, y, z⟩ => ⟨⟨x, y⟩, z⟩, fun ⟨⟨x, y⟩, z⟩ => ⟨x, y, z⟩⟩
theorem fi_fresh (l : List De) (s : Int) : ∀ j, j ≤ l.length → fresh l (fi l s j) s
  | 0, _ => trivial
  | j + 1, hj => by
    have hx : l[j]? = some l[j] := List.getElem?_eq_getElem (by omega)
    have ih := fi_fresh l s j (by omega)
    by_cases hf : fires l[j] (fold (l.take j) s)
    · rw [fi_t hx hf, fresh_append]
      refine ⟨ih, ?_, trivial⟩
      rw [fi_run l s j (by omega), tOf_j hx]
      exact hf.2
    · rw [fi_f hx hf]
      exact ih
theorem ix_fresh (l : List De) (s : Int) : ∀ n, fresh l (ix l s n) s
  | 0 => trivial
  | n + 1 => by
    show fresh l (ix l s n ++ fi l (itd l s n) l.length) s
    rw [fresh_append, ix_run]
    exact ⟨ix_fresh l s n, fi_fresh l _ l.length (Nat.le_refl _)⟩
section
variable {w : Int} {l : List De} (hw : 1 ≤ w ∧ w ≤ 6) (hl : ∀ d, d ∈ l → deOk w d)
include hw hl
theorem fresh_not {i : Int} : ∀ (q : List Int) (s : Int), sOk w s → fresh l q s → sub (tOf l i) s → i ∉ q
  | [], s, _, _, _ => fun h => by cases h
  | j :: q, s, hs, hf, hi => fun h => by
    have ht := tOf_ok hw hl j
    rcases List.mem_cons.1 h with rfl | h
    · exact hf.1 hi
    · exact fresh_not q _ (sOk_bor hw hs ht) hf.2 (sub_trans hi (sub_or_l (hs.inS hw) (ht.inS hw))) h
theorem fresh_nodup : ∀ (q : List Int) (s : Int), sOk w s → fresh l q s → q.Nodup
  | [], s, _, _ => List.nodup_nil
  | i :: q, s, hs, hf => by
    have ht := tOf_ok hw hl i
    have hb := sOk_bor hw hs ht
    exact List.nodup_cons.2 ⟨fresh_not hw hl q _ hb hf.2 (sub_or_r (hs.inS hw) (ht.inS hw)), fresh_nodup q _ hb hf.2⟩
end
theorem good_in {l : List De} : ∀ {q : List Int} {s : Int}, good l q s → ∀ x, x ∈ q → 0 ≤ x ∧ x < l.length
  | [], _, _ => fun x h => by cases h
  | i :: q, s, h => fun x hx => by
    rcases List.mem_cons.1 hx with rfl | hx
    · have := h.1.1; omega
    · exact good_in h.2 x hx
theorem nodup_len : ∀ (n : Nat) (q : List Int), q.Nodup → (∀ x, x ∈ q → 0 ≤ x ∧ x < n) → q.length ≤ n
  | 0, [], _, _ => Nat.le_refl _
  | 0, x :: q, _, h => by have := h x List.mem_cons_self; omega
  | n + 1, q, hq, h => by
    by_cases hn : (n : Int) ∈ q
    · have h1 := nodup_len n (q.erase (n : Int)) (hq.erase _) (fun x hx => by
        have h2 := (hq.mem_erase_iff).1 hx
        have h3 := h x h2.2
        have h4 := h2.1
        omega)
      rw [List.length_erase_of_mem hn] at h1
      omega
    · have h1 := nodup_len n q hq (fun x hx => by
        have h3 := h x hx
        have h4 : x ≠ (n : Int) := fun e => hn (e ▸ hx)
        omega)
      omega
theorem short_of {w : Int} {l : List De} (h : dsOk w l) {s : Int} (hs : sOk w s) {q : List Int} (hg : good l q s) (hf : fresh l q s) : q.length ≤ 8 := Nat.le_trans (nodup_len l.length _ (fresh_nodup h.1 h.2.2 _ s hs hf) (good_in hg)) h.2.1
theorem nodup_at {q : List Int} (h : q.Nodup) {i : Nat} {x : Int} (hx : q[i]? = some x) : x ∉ q.take i := by
  have h1 : (q.take (i + 1)).Nodup := List.Sublist.nodup (List.take_sublist _ _) h
  rw [take_next hx] at h1
  intro hm
  exact (List.nodup_append.1 h1).2.2 x hm x (List.mem_singleton.2 rfl) rfl
theorem dv_ex {w : Int} {l : List De} (h : dsOk w l) {s : Int} (hs : sOk w s) : ∃ q, dv l s = q ∧ q.length ≤ 8 ∧ q.Nodup ∧ good l q s ∧ run l q s = cl l s := by
  obtain ⟨n, h1, h2⟩ := dv_eq l s
  exact ⟨ix l s n, h1, short_of h hs (ix_good l s n) (ix_fresh l s n), fresh_nodup h.1 h.2.2 _ s hs (ix_fresh l s n), ix_good l s n, by rw [h2]; exact ix_run l s n⟩
end Go.Proofs.Ytnemkgclkbhjkaa
