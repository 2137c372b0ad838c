/-
  Rows of valid tables are sorted. Plain lemmas.
-/
import Derived.Test.YtldkjccccjiihaaVCntM
import Derived.Test.YtldkjccccjiihaaVSrt
set_option linter.unusedVariables false
namespace Go.Proofs.Ytldkjccccjiihaa
open Go.RowKit

theorem asc_of_tOk {t : Ta} (h : tOk t) : Asc t.rows := by
  refine List.pairwise_iff_getElem.2 (fun i j hi hj hij => ?_)
  have := tOk_le h (j - i) i t.rows[i] t.rows[j] (List.getElem?_eq_getElem hi) (by rw [show i + (j - i) = j by omega]; exact List.getElem?_eq_getElem hj)
  exact this
theorem rsw_of_tOk {t : Ta} (h : tOk t) : RsW t.w.toNat t.rows := fun r hr => by
  obtain ⟨i, hi⟩ := List.mem_iff_getElem?.1 hr
  have := h.2 i r hi
  exact ⟨by have := this.1.2; omega, this.1.1.2⟩
theorem tOk_of {w : Nat} {rs : List (List V)} (hw : 1 ≤ w ∧ w ≤ 6) (hl : rs.length ≤ 400) (h : RsW w rs) (ha : Asc rs) : tOk ⟨w, rs⟩ := by
  refine ⟨⟨⟨by show (1 : Int) ≤ w; omega, by show (w : Int) ≤ 6; omega⟩, hl⟩, fun i r hr => ?_⟩
  have hm := h r (List.mem_of_getElem? hr)
  refine ⟨⟨⟨⟨by omega, by omega⟩, hm.2⟩, by show (r.length : Int) = w; omega⟩, fun q h0 hq => ?_⟩
  exact asc_at ha (show i - 1 < i by omega) hq hr
end Go.Proofs.Ytldkjccccjiihaa
