/-
  The walks of ValidExpr of both packages.
-/
import Derived.Test.YtfbkbppaignofaaOkS
namespace Go.Proofs.Ytfbkbppaignofaa
open Go.RowKit

namespace ET
/-- Valid for rows of a width. -/
def okX (t : ET) (W : Int) : Bool := decide (1 ≤ W ∧ W ≤ 6) && t.okE W 8

theorem okX_pos {t : ET} {W : Int} (h : 1 ≤ W ∧ W ≤ 6) : t.okX W = t.okE W 8 := by unfold okX; rw [decide_eq_true h]; simp
theorem okX_neg {t : ET} {W : Int} (h : ¬ (1 ≤ W ∧ W ≤ 6)) : t.okX W = false := by unfold okX; rw [decide_eq_false h]; simp

theorem inRange_lit {n lo hi : Int} {w : World} {x : Bool} (h : (decide (lo ≤ n) && decide (n ≤ hi)) = x) :
    Calls Try.prog 43 #[.int .i64 n, .int .i64 lo, .int .i64 hi] w fun e w' => e = .returned (.bool x) ∧ w = w' := by
  subst h
  exact inRange_any n lo hi w

theorem ValidExpr_any (t : ET) (w : World) (A : Option Addr) (cp : Nat) (W : Int) (hA : On w t A) (hM : t.Most 2000000) :
    Calls Try.prog 17 #[t.val A cp, .int .i64 W] w fun e w' => e = .returned (.bool (t.okX W)) ∧ Below w.heap.size w w' := by
  have HB := Lib.hid (B_alloc (Below.refl w.heap.size w) (.cells #[.int .i64 t.k, .int .i64 t.c, .bool t.b, .int .i64 t.n, .slice A t.m cp] 27))
  have HA := Lib.hid (hA.on HB.out)
  have HM := Lib.hid hM
  clear hA hM
  unfold ET.val
  by_cases hW : 1 ≤ W ∧ W ≤ 6
  · rw [okX_pos hW]
    have cw := Lib.hid (validWidth_lit (w := w.alloc (.cells #[.int .i64 t.k, .int .i64 t.c, .bool t.b, .int .i64 t.n, .slice A t.m cp] 27)) (decide_eq_true hW))
    have cc := Lib.hid (validWithin_any t (w.alloc (.cells #[.int .i64 t.k, .int .i64 t.c, .bool t.b, .int .i64 t.n, .slice A t.m cp] 27)) A cp W 8 HA.out HM.out hW.1 hW.2 (by omega))
    unfold ET.val at cc
    go_enter Try.func17, Try.ntmps17
    go_wp2_with fail
    refine cw.out.mono ?_; rintro e w' ⟨rfl, rfl⟩
    go_wp2_with fail
    refine cc.out.mono ?_; rintro e w1 ⟨rfl, hb⟩
    have HB1 := Lib.hid (B_more HB.out hb)
    clear hb
    go_wp2_with fail
    go_ret
    exact ⟨rfl, HB1.out⟩
  · rw [okX_neg hW]
    have cw := Lib.hid (validWidth_lit (w := w.alloc (.cells #[.int .i64 t.k, .int .i64 t.c, .bool t.b, .int .i64 t.n, .slice A t.m cp] 27)) (decide_eq_false hW))
    go_enter Try.func17, Try.ntmps17
    go_wp2_with fail
    refine cw.out.mono ?_; rintro e w' ⟨rfl, rfl⟩
    go_wp2_with fail
    go_ret
    exact ⟨rfl, HB.out⟩
theorem sValidExpr_any (t : ET) (w : World) (A : Option Addr) (cp : Nat) (W : Int) (hA : On w t A) (hM : t.Most 2000000) :
    Calls Try.prog 22 #[t.val A cp, .int .i64 W] w fun e w' => e = .returned (.bool (t.okX W)) ∧ Below w.heap.size w w' := by
  have HB := Lib.hid (B_alloc (Below.refl w.heap.size w) (.cells #[.int .i64 t.k, .int .i64 t.c, .bool t.b, .int .i64 t.n, .slice A t.m cp] 27))
  have HA := Lib.hid (hA.on HB.out)
  have HM := Lib.hid hM
  clear hA hM
  unfold ET.val
  by_cases hW : 1 ≤ W ∧ W ≤ 6
  · rw [okX_pos hW]
    have cw := Lib.hid (inRange_lit (w := w.alloc (.cells #[.int .i64 t.k, .int .i64 t.c, .bool t.b, .int .i64 t.n, .slice A t.m cp] 27)) (n := W) (lo := 1) (hi := 6) (x := true) (by simp; exact hW))
    have cc := Lib.hid (svalidExpr_any t (w.alloc (.cells #[.int .i64 t.k, .int .i64 t.c, .bool t.b, .int .i64 t.n, .slice A t.m cp] 27)) A cp W 8 HA.out HM.out hW.1 hW.2 (by omega))
    unfold ET.val at cc
    go_enter Try.func22, Try.ntmps22
    go_wp2_with fail
    refine cw.out.mono ?_; rintro e w' ⟨rfl, rfl⟩
    go_wp2_with fail
    refine cc.out.mono ?_; rintro e w1 ⟨rfl, hb⟩
    have HB1 := Lib.hid (B_more HB.out hb)
    clear hb
    go_wp2_with fail
    go_ret
    exact ⟨rfl, HB1.out⟩
  · rw [okX_neg hW]
    have cw := Lib.hid (inRange_lit (w := w.alloc (.cells #[.int .i64 t.k, .int .i64 t.c, .bool t.b, .int .i64 t.n, .slice A t.m cp] 27)) (n := W) (lo := 1) (hi := 6) (x := false) (by simp; omega))
    go_enter Try.func22, Try.ntmps22
    go_wp2_with fail
    refine cw.out.mono ?_; rintro e w' ⟨rfl, rfl⟩
    go_wp2_with fail
    go_ret
    exact ⟨rfl, HB.out⟩
end ET
end Go.Proofs.Ytfbkbppaignofaa
