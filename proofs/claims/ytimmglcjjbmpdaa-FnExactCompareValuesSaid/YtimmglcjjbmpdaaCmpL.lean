/-
  The walks of the laws on two values.
-/
import Derived.Test.YtimmglcjjbmpdaaCmp
import Derived.Deep.RegionHeld3
namespace Go.Proofs.Ytimmglcjjbmpdaa
open Go.RowKit

theorem walk_FnExactCompareValues (b1 : Bool) (n1 : Int) (b2 : Bool) (n2 : Int) (w : World) (_h1 : (Lit.int .i64 n1).wf = true) (_h2 : (Lit.int .i64 n2).wf = true) :
    Calls Try.prog 10 #[.agg #[.bool b1, .int .i64 n1], .agg #[.bool b2, .int .i64 n2]] w fun e w' => e = .returned (.bool true) ∧ Below w.heap.size w w' := by
  have h0 : Below w.heap.size w ((w.alloc (.cells #[.bool b1, .int .i64 n1] 51)).alloc (.cells #[.bool b2, .int .i64 n2] 51)) := B_alloc (B_alloc (Below.refl _ _) _) _
  clear _h1 _h2
  go_enter Try.func10, Try.ntmps10
  go_wp2_with fail
  go_region_held3 (fun w' => (∀ b o, b < w.heap.size + 2 → w'.cell? ⟨b, o, none⟩ = ((w.alloc (.cells #[.bool b1, .int .i64 n1] 51)).alloc (.cells #[.bool b2, .int .i64 n2] 51)).cell? ⟨b, o, none⟩) ∧ Below ((w.alloc (.cells #[.bool b1, .int .i64 n1] 51)).alloc (.cells #[.bool b2, .int .i64 n2] 51)).heap.size ((w.alloc (.cells #[.bool b1, .int .i64 n1] 51)).alloc (.cells #[.bool b2, .int .i64 n2] 51)) w')
    (first | exact S_init | exact S_step (by assumption) hb (by simp))
    (first
      | (go_at_call 39; refine (toValue_any _ _ _).mono ?_; rintro e w1 ⟨rfl, hb⟩)
      | (go_at_call 19; refine (sCompare_any _ _ _ _ _).mono ?_; rintro e w1 ⟨rfl, hb⟩))
  go_wp2_with fail
  go_region_held3 (fun w' => (∀ b o, b < w.heap.size + 2 → w'.cell? ⟨b, o, none⟩ = ((w.alloc (.cells #[.bool b1, .int .i64 n1] 51)).alloc (.cells #[.bool b2, .int .i64 n2] 51)).cell? ⟨b, o, none⟩) ∧ Below ((w.alloc (.cells #[.bool b1, .int .i64 n1] 51)).alloc (.cells #[.bool b2, .int .i64 n2] 51)).heap.size ((w.alloc (.cells #[.bool b1, .int .i64 n1] 51)).alloc (.cells #[.bool b2, .int .i64 n2] 51)) w')
    (first | exact S_drew (by assumption) | exact S_step (by assumption) hb (by simp))
    (first
      | (go_at_call 39; refine (toValue_any _ _ _).mono ?_; rintro e w1 ⟨rfl, hb⟩)
      | (go_at_call 18; refine (Compare_any _ _ _ _ _).mono ?_; rintro e w1 ⟨rfl, hb⟩))
  go_wp2_with fail
  go_ret
  exact ⟨rfl, B_more h0 (by assumption : _ ∧ _).2⟩

end Go.Proofs.Ytimmglcjjbmpdaa
