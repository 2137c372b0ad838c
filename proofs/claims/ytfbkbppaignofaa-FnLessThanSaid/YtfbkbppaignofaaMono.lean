/-
  A valid expression is valid at more levels; its kids have values.
-/
import Derived.Test.YtfbkbppaignofaaEvalX
namespace Go.Proofs.Ytfbkbppaignofaa
open Go.RowKit

namespace ET
theorem okE_up (W : Int) : ∀ (t : ET) (lv lv' : Nat), lv ≤ lv' → t.okE W lv = true → t.okE W lv' = true := by
  refine ET.all ?_ ?_
  · intro k c b n m kid IH lv lv' hl h
    obtain ⟨ha, hh, hk⟩ := okE_parts h
    rw [okE_kids]
    simp only [Bool.and_eq_true, decide_eq_true_eq]
    exact ⟨⟨ha, hh⟩, fun i hi => ⟨by have := (hk i hi).1; omega, IH i hi (lv - 1) (lv' - 1) (by omega) (hk i hi).2⟩⟩
  · intro _ lv lv' _ h
    exact absurd h (by show ¬ false = true; simp)

theorem evB_parts {t : ET} {rn : Nat} {f : Nat → M.V} (h : t.evB rn f = true) : okRow rn f = true ∧ t.okE rn 8 = true := by
  unfold evB at h
  simp only [Bool.and_eq_true] at h
  exact ⟨h.1, (okX_pos (t := t) (W := rn) (by have := okRow_n h.1; omega)).symm.trans h.2⟩
theorem evB_mk {t : ET} {rn : Nat} {f : Nat → M.V} (h : okRow rn f = true) (k : t.okE rn 8 = true) : t.evB rn f = true :=
  evB_both h ((okX_pos (t := t) (W := rn) (by have := okRow_n h; omega)).trans k)
theorem evB_kid {t : ET} {rn : Nat} {f : Nat → M.V} (h : t.evB rn f = true) {i : Nat} (hi : i < t.m) : (t.kid i).evB rn f = true :=
  evB_mk (evB_parts h).1 (okE_up rn _ 7 8 (by omega) ((okE_parts (evB_parts h).2).2.2 i hi).2)
theorem m_of {t : ET} {rn : Nat} {f : Nat → M.V} (h : t.evB rn f = true) (hk : 3 ≤ t.k ∧ t.k ≤ 9) : t.m = 2 := by
  have := (okE_parts (evB_parts h).2).1
  unfold ar at this
  repeat' split at this
  all_goals omega
theorem ev_two_kids {t : ET} {f : Nat → M.V} (hk : 3 ≤ t.k ∧ t.k ≤ 9) : t.ev f = M.comb t.k ((t.kid 0).ev f) ((t.kid 1).ev f) := by
  cases t with
  | mk k c b n m kid => exact ev_pair hk
  | no => exact absurd hk.1 (by show ¬ (3 : Int) ≤ 0; omega)
theorem kid_ok {t : ET} {rn : Nat} {f : Nat → M.V} (h : t.evB rn f = true) {i : Nat} (hi : i < t.m) : ((t.kid i).ev f).ok = true :=
  ev_ok f rn (okRow_all (evB_parts h).1) _ _ ((okE_parts (evB_parts h).2).2.2 i hi).2
end ET

theorem comb_null {k : Int} (hk : 3 ≤ k ∧ k ≤ 7) {x y : M.V} (h : x.nul = true ∨ y.nul = true) : M.comb k x y = ⟨true, 0⟩ := by
  unfold M.comb
  rw [if_neg (by omega), if_neg (by omega), if_pos h]

/-- An element of a slice of expressions. -/
def Five (w : World) (b o : Nat) (t : ET) (A : Option Addr) (cp : Nat) : Prop :=
  w.cell? ⟨b, o, none⟩ = some (.int .i64 t.k) ∧ w.cell? ⟨b, o + 1, none⟩ = some (.int .i64 t.c) ∧ w.cell? ⟨b, o + 2, none⟩ = some (.bool t.b) ∧ w.cell? ⟨b, o + 3, none⟩ = some (.int .i64 t.n) ∧ w.cell? ⟨b, o + 4, none⟩ = some (.slice A t.m cp)
theorem Five.on {w w' : World} {b o : Nat} {t : ET} {A : Option Addr} {cp : Nat} (h : Five w b o t A cp) (hb : Below w.heap.size w w') : Five w' b o t A cp :=
  ⟨keep_cell h.1 hb, keep_cell h.2.1 hb, keep_cell h.2.2.1 hb, keep_cell h.2.2.2.1 hb, keep_cell h.2.2.2.2 hb⟩
end Go.Proofs.Ytfbkbppaignofaa
