/-
  The steps of a derivation. No condition.
-/
import Derived.Test.YtdijgnkgeoeplaaVDep
set_option maxHeartbeats 4000000
set_option maxRecDepth 100000
set_option linter.unusedVariables false
set_option linter.unusedSimpArgs false
namespace Go.Proofs.Ytdijgnkgeoeplaa
open Go.RowKit

theorem stp_f {d : De} {s : Int} (h : ¬ fires d s) : stp s d = s := if_neg h
theorem stp_t {d : De} {s : Int} (h : fires d s) : stp s d = intBit .or .i64 s d.t := if_pos h
theorem fires_no {d : De} {s : Int} (h : ¬ sub d.f s) : ¬ fires d s := fun h' => h h'.1
theorem take_deOk {w : Int} {l : List De} (hl : ∀ d, d ∈ l → deOk w d) (i : Nat) : ∀ d, d ∈ l.take i → deOk w d := fun d hd => hl d (List.mem_of_mem_take hd)
/-- Whether the j-th dependency is applied in a pass. -/
noncomputable def hit (l : List De) (s : Int) (j : Nat) : Bool := match l[j]? with
  | some d => decide (fires d (fold (l.take j) s))
  | none => false
theorem hit_at {l : List De} {s : Int} {j : Nat} {x : De} (hx : l[j]? = some x) : hit l s j = decide (fires x (fold (l.take j) s)) := by
  unfold hit
  rw [hx]
/-- The dependencies that are applied in a pass before the j-th one. -/
noncomputable def fi (l : List De) (s : Int) : Nat → List Int
  | 0 => []
  | j + 1 => if hit l s j = true then fi l s j ++ [(j : Int)] else fi l s j
theorem fi_t {l : List De} {s : Int} {j : Nat} {x : De} (hx : l[j]? = some x) (h : fires x (fold (l.take j) s)) : fi l s (j + 1) = fi l s j ++ [(j : Int)] := if_pos (by rw [hit_at hx]; exact decide_eq_true h)
theorem fi_f {l : List De} {s : Int} {j : Nat} {x : De} (hx : l[j]? = some x) (h : ¬ fires x (fold (l.take j) s)) : fi l s (j + 1) = fi l s j := if_neg (by rw [hit_at hx, decide_eq_false h]; decide)
theorem fi_len (l : List De) (s : Int) : ∀ j, (fi l s j).length ≤ j
  | 0 => Nat.le_refl _
  | j + 1 => by
    have := fi_len l s j
    unfold fi
    split
    · rw [List.length_append, List.length_singleton]; omega
    · omega
theorem fi_none {w : Int} (hw : 1 ≤ w ∧ w ≤ 6) {l : List De} (hl : ∀ d, d ∈ l → deOk w d) {s : Int} (hs : sOk w s) (h : fold l s = s) : ∀ j, j ≤ l.length → fi l s j = []
  | 0, _ => rfl
  | j + 1, hj => by
    have hx : l[j]? = some l[j] := List.getElem?_eq_getElem (by omega)
    have h1 := fold_le hw (l.take j) s (take_deOk hl j) hs
    have h2 := fold_ok hw (l.take j) s (take_deOk hl j) hs
    have h3 := stp_le hw (hl _ (List.getElem_mem (show j < l.length by omega))) h2
    have h4 := fold_next (s := s) hx
    have h5 : fold (l.take (j + 1)) s ≤ fold l s := by
      have e : fold l s = fold (l.drop (j + 1)) (fold (l.take (j + 1)) s) := by
        unfold fold
        rw [← List.foldl_append, List.take_append_drop]
      rw [e]
      exact fold_le hw _ _ (fun d hd => hl d (List.mem_of_mem_drop hd)) (fold_ok hw _ _ (take_deOk hl (j + 1)) hs)
    have hnf : ¬ fires l[j] (fold (l.take j) s) := fun hf => by
      have := h3.2.2 hf
      omega
    rw [fi_f hx hnf]
    exact fi_none hw hl hs h j (by omega)
/-- The dependencies that are applied in the first n passes. -/
noncomputable def ix (l : List De) (s : Int) : Nat → List Int
  | 0 => []
  | n + 1 => ix l s n ++ fi l (itd l s n) l.length
noncomputable def dv (l : List De) (s : Int) : List Int := ix l s 64
theorem ix_len (l : List De) (s : Int) : ∀ n, (ix l s n).length ≤ n * l.length
  | 0 => by show 0 ≤ _; omega
  | n + 1 => by
    have h1 := ix_len l s n
    have h2 := fi_len l (itd l s n) l.length
    unfold ix
    rw [List.length_append, Nat.add_mul]
    omega
theorem ix_len8 {l : List De} (h : l.length ≤ 8) (s : Int) {n : Nat} (hn : n ≤ 64) : (ix l s n).length ≤ 512 := by
  have h1 := ix_len l s n
  have h2 : n * l.length ≤ 64 * 8 := Nat.mul_le_mul hn h
  omega
theorem ix_stay {w : Int} (hw : 1 ≤ w ∧ w ≤ 6) {l : List De} (hl : ∀ d, d ∈ l → deOk w d) {s : Int} (hs : sOk w s) {k : Nat} (h : itd l s (k + 1) = itd l s k) : ∀ j, ix l s (k + j) = ix l s k
  | 0 => rfl
  | j + 1 => by
    have h1 := itd_stay h j
    have h2 := itd_ok hw hl hs k
    show ix l s (k + j) ++ fi l (itd l s (k + j)) l.length = _
    rw [ix_stay hw hl hs h j, h1, fi_none hw hl h2 h l.length (Nat.le_refl _), List.append_nil]
/-- The passes, and the steps. -/
theorem passes_dv {w : Int} (hw : 1 ≤ w ∧ w ≤ 6) {l : List De} {s : Int} (hl : ∀ d, d ∈ l → deOk w d) (hs : sOk w s) :
    ∃ k : Nat, k ≤ 63 ∧ (∀ j, j < k → itd l s j < itd l s (j + 1)) ∧ itd l s (k + 1) = cl l s ∧ itd l s k = cl l s ∧ ix l s (k + 1) = dv l s := by
  obtain ⟨k, h1, h2, h3, h4⟩ := passes hw hl hs
  have he : itd l s (k + 1) = itd l s k := by rw [h3, h4]
  have e1 := ix_stay hw hl hs he 1
  have e2 := ix_stay hw hl hs he (64 - k)
  rw [show k + (64 - k) = 64 by omega] at e2
  exact ⟨k, h1, h2, h3, h4, by rw [e1]; exact e2.symm⟩
theorem dv_len {w : Int} {l : List De} (h : dsOk w l) (s : Int) : (dv l s).length ≤ 512 := ix_len8 h.2.1 s (Nat.le_refl _)
/-- The set before a pass of the program. -/
noncomputable def prv (l : List De) (s : Int) : Nat → Int
  | 0 => -1
  | n + 1 => itd l s n
end Go.Proofs.Ytdijgnkgeoeplaa
