/-
  The walks of the model's functions that ask whether an expression is valid.
-/
import Derived.Test.YtfbkbppaignofaaOkE
namespace Go.Proofs.Ytfbkbppaignofaa
open Go.RowKit

namespace ET
/-- What the model's validExpr does at a tree. -/
def SvOK (t : ET) : Prop := ∀ (w : World) (A : Option Addr) (cp : Nat) (W : Int) (lv : Nat), On w t A → t.Most 2000000 → 1 ≤ W → W ≤ 6 → lv ≤ 8 →
  Calls Try.prog 44 #[t.val A cp, .int .i64 W, .int .i64 lv] w fun e w' => e = .returned (.bool (t.okE W lv)) ∧ Below w.heap.size w w'

set_option maxHeartbeats 4000000 in
set_option maxRecDepth 100000 in
theorem sv_ar (k c : Int) (b : Bool) (n : Int) (m : Nat) (w : World) (A : Option Addr) (cp : Nat) (W : Int) (lv : Nat) (har : ¬ (m : Int) = ar k) :
    Calls Try.prog 44 #[.agg #[.int .i64 k, .int .i64 c, .bool b, .int .i64 n, .slice A m cp], .int .i64 W, .int .i64 lv] w fun e w' => e = .returned (.bool false) ∧ Below w.heap.size w w' := by
  have hd : ((m : Int) != ar k) = true := by simpa using har
  have HZ := Lib.hid (Blk.new' (w := w) (cs := #[.int .i64 k, .int .i64 c, .bool b, .int .i64 n, .slice A m cp]) (T := 27) (g := w.heap.size) rfl)
  have HB := Lib.hid (B_alloc (Below.refl w.heap.size w) (.cells #[.int .i64 k, .int .i64 c, .bool b, .int .i64 n, .slice A m cp] 27))
  go_enter Try.func44, Try.ntmps44
  go_wp2_with fail
  obtain ⟨w0, hw0⟩ : ∃ x, x = w.alloc (.cells #[.int .i64 k, .int .i64 c, .bool b, .int .i64 n, .slice A m cp] 27) := ⟨_, rfl⟩
  rw [← hw0] at HB HZ
  rw [← hw0]
  clear hw0
  have x0 := HZ.out.cell 0 _ rfl
  have x4 := HZ.out.cell 4 _ rfl
  dsimp only [List.getElem_toArray, List.getElem_cons_zero, List.getElem_cons_succ] at x0 x4
  refine wp_region_held_drew (S := (fun w' => w'.cell? ⟨w.heap.size, 0, none⟩ = some (.int .i64 k) ∧ w'.cell? ⟨w.heap.size, 4, none⟩ = some (.slice A m cp) ∧ Below w0.heap.size w0 w')) (by kernel_rfl) (init_two x0 x4) (fun hHeld => ?_)
  refine held_take 0 8 _ ?_ rfl rfl (by kernel_rfl) (by kernel_rfl) (by kernel_rfl) (fun _ _ _ h => h) (by kernel_rfl) (fun w' hSw => ?_) (by assumption) ?_
  rotate_left
  · ((try dsimp only at hSw); go_simp; (try with_reducible rfl))
  simp only [Act.put, List.setIfInBounds_toArray, List.set_cons_zero, List.set_cons_succ]
  refine held_take 1 9 _ ?_ rfl rfl (by kernel_rfl) (by kernel_rfl) (by kernel_rfl) (fun _ _ _ h => h) (by kernel_rfl) (fun w' hSw => ?_) (by assumption) ?_
  rotate_left
  · ((try dsimp only at hSw); go_simp; (try with_reducible rfl))
  simp only [Act.put, List.setIfInBounds_toArray, List.set_cons_zero, List.set_cons_succ]
  refine held_take 2 10 _ ?_ rfl rfl (by kernel_rfl) (by kernel_rfl) (by kernel_rfl) (fun _ _ _ h => h) (by kernel_rfl) (fun w' hSw => ?_) (by assumption) ?_
  rotate_left
  · ((try dsimp only at hSw); go_simp; (try with_reducible rfl))
  simp only [Act.put, List.setIfInBounds_toArray, List.set_cons_zero, List.set_cons_succ]
  refine held_take 3 11 _ ?_ rfl rfl (by kernel_rfl) (by kernel_rfl) (by kernel_rfl) (fun _ _ _ h => h) (by kernel_rfl) (fun w' hSw => ?_) (by assumption) ?_
  rotate_left
  · ((try dsimp only at hSw); go_simp; (try with_reducible rfl))
  simp only [Act.put, List.setIfInBounds_toArray, List.set_cons_zero, List.set_cons_succ]
  refine held_take 4 12 _ ?_ rfl rfl (by kernel_rfl) (by kernel_rfl) (by kernel_rfl) (fun _ _ _ h => h) (by kernel_rfl) (fun w' hSw => ?_) (by assumption) ?_
  rotate_left
  · ((try dsimp only at hSw); go_simp; (try with_reducible rfl))
  simp only [Act.put, List.setIfInBounds_toArray, List.set_cons_zero, List.set_cons_succ]
  refine wpAnyH_ready (rs := [5]) (by kernel_rfl) (by simp) ?_
  refine AllReadyH.cons rfl (fun K hK => ?_) AllReadyH.nil
  go_simp
  refine (kidsOf_any _ _).mono ?_; rintro e w1 ⟨rfl, rfl⟩
  go_wp2_with fail
  refine hK.out _ _ (hHeld) (fun hHeld2 => ?_)
  clear hK K
  (try clear hHeld)
  (try simp only [Act.put, List.setIfInBounds_toArray, List.set_cons_zero, List.set_cons_succ])
  refine held_take 6 14 _ ?_ rfl rfl (by kernel_rfl) (by kernel_rfl) (by kernel_rfl) (fun _ _ _ h => h) (by kernel_rfl) (fun w' hSw => ?_) (by assumption) ?_
  rotate_left
  · ((try dsimp only at hSw); go_simp; (try with_reducible rfl))
  simp only [Act.put, List.setIfInBounds_toArray, List.set_cons_zero, List.set_cons_succ]
  refine held_take 7 15 _ ?_ rfl rfl (by kernel_rfl) (by kernel_rfl) (by kernel_rfl) (fun _ _ _ h => h) (by kernel_rfl) (fun w' hSw => ?_) (by assumption) ?_
  rotate_left
  · ((try dsimp only at hSw); go_simp; (try with_reducible rfl))
  simp only [Act.put, List.setIfInBounds_toArray, List.set_cons_zero, List.set_cons_succ]
  refine held_skip 8 16 (by kernel_rfl) (by kernel_rfl) (by kernel_rfl) (by kernel_rfl) (fun _ _ _ h => h) (by kernel_rfl) (by assumption) ?_
  simp only [Act.put, List.setIfInBounds_toArray, List.set_cons_zero, List.set_cons_succ]
  refine held_skip 9 17 (by kernel_rfl) (by kernel_rfl) (by kernel_rfl) (by kernel_rfl) (fun _ _ _ h => h) (by kernel_rfl) (by assumption) ?_
  simp only [Act.put, List.setIfInBounds_toArray, List.set_cons_zero, List.set_cons_succ]
  refine held_skip 10 18 (by kernel_rfl) (by kernel_rfl) (by kernel_rfl) (by kernel_rfl) (fun _ _ _ h => h) (by kernel_rfl) (by assumption) ?_
  simp only [Act.put, List.setIfInBounds_toArray, List.set_cons_zero, List.set_cons_succ]
  refine held_skip 11 19 (by kernel_rfl) (by kernel_rfl) (by kernel_rfl) (by kernel_rfl) (fun _ _ _ h => h) (by kernel_rfl) (by assumption) ?_
  simp only [Act.put, List.setIfInBounds_toArray, List.set_cons_zero, List.set_cons_succ]
  refine held_skip 12 20 (by kernel_rfl) (by kernel_rfl) (by kernel_rfl) (by kernel_rfl) (fun _ _ _ h => h) (by kernel_rfl) (by assumption) ?_
  simp only [Act.put, List.setIfInBounds_toArray, List.set_cons_zero, List.set_cons_succ]
  refine held_skip 13 21 (by kernel_rfl) (by kernel_rfl) (by kernel_rfl) (by kernel_rfl) (fun _ _ _ h => h) (by kernel_rfl) (by assumption) ?_
  simp only [Act.put, List.setIfInBounds_toArray, List.set_cons_zero, List.set_cons_succ]
  refine held_skip 14 22 (by kernel_rfl) (by kernel_rfl) (by kernel_rfl) (by kernel_rfl) (fun _ _ _ h => h) (by kernel_rfl) (by assumption) ?_
  simp only [Act.put, List.setIfInBounds_toArray, List.set_cons_zero, List.set_cons_succ]
  refine held_skip 15 23 (by kernel_rfl) (by kernel_rfl) (by kernel_rfl) (by kernel_rfl) (fun _ _ _ h => h) (by kernel_rfl) (by assumption) ?_
  simp only [Act.put, List.setIfInBounds_toArray, List.set_cons_zero, List.set_cons_succ]
  refine held_take 16 24 _ ?_ rfl rfl (by kernel_rfl) (by kernel_rfl) (by kernel_rfl) (fun _ _ _ h => h) (by kernel_rfl) (fun w' hSw => ?_) (by assumption) ?_
  rotate_left
  · ((try dsimp only at hSw); go_simp; (try with_reducible rfl))
  simp only [Act.put, List.setIfInBounds_toArray, List.set_cons_zero, List.set_cons_succ]
  refine wpAnyH_done (by kernel_rfl) ?_ _
  go_wp2_with fail
  go_ret
  exact ⟨rfl, HB.out.drew⟩

set_option maxHeartbeats 4000000 in
set_option maxRecDepth 100000 in
theorem sv_deep (k c : Int) (b : Bool) (n : Int) (m : Nat) (w : World) (A : Option Addr) (cp : Nat) (W : Int) (hm0 : 0 < m) (har : (m : Int) = ar k) :
    Calls Try.prog 44 #[.agg #[.int .i64 k, .int .i64 c, .bool b, .int .i64 n, .slice A m cp], .int .i64 W, .int .i64 0] w fun e w' => e = .returned (.bool false) ∧ Below w.heap.size w w' := by
  have hd : ((m : Int) != ar k) = false := by simpa using har
  have hgt : decide (0 < m) = true := by simpa using hm0
  clear har
  have HZ := Lib.hid (Blk.new' (w := w) (cs := #[.int .i64 k, .int .i64 c, .bool b, .int .i64 n, .slice A m cp]) (T := 27) (g := w.heap.size) rfl)
  have HB := Lib.hid (B_alloc (Below.refl w.heap.size w) (.cells #[.int .i64 k, .int .i64 c, .bool b, .int .i64 n, .slice A m cp] 27))
  go_enter Try.func44, Try.ntmps44
  go_wp2_with fail
  obtain ⟨w0, hw0⟩ : ∃ x, x = w.alloc (.cells #[.int .i64 k, .int .i64 c, .bool b, .int .i64 n, .slice A m cp] 27) := ⟨_, rfl⟩
  rw [← hw0] at HB HZ
  rw [← hw0]
  clear hw0
  have x0 := HZ.out.cell 0 _ rfl
  have x4 := HZ.out.cell 4 _ rfl
  dsimp only [List.getElem_toArray, List.getElem_cons_zero, List.getElem_cons_succ] at x0 x4
  go_region_held3 (fun w' => w'.cell? ⟨w.heap.size, 0, none⟩ = some (.int .i64 k) ∧ w'.cell? ⟨w.heap.size, 4, none⟩ = some (.slice A m cp) ∧ Below w0.heap.size w0 w')
    (first | exact init_two x0 x4 | assumption)
    (first | (go_at_call 62; refine (kidsOf_any _ _).mono ?_; rintro e w1 ⟨rfl, rfl⟩))
  go_wp2_with fail
  go_ret
  exact ⟨rfl, HB.out.drew⟩

set_option maxHeartbeats 4000000 in
set_option maxRecDepth 100000 in
theorem sv_leaf (k c : Int) (b : Bool) (n : Int) (w : World) (A : Option Addr) (cp : Nat) (W : Int) (lv : Nat) (hW1 : 1 ≤ W) (hW2 : W ≤ 6) (har : (0 : Int) = ar k) :
    Calls Try.prog 44 #[.agg #[.int .i64 k, .int .i64 c, .bool b, .int .i64 n, .slice A 0 cp], .int .i64 W, .int .i64 lv] w fun e w' => e = .returned (.bool (headOk k c b n W)) ∧ Below w.heap.size w w' := by
  have hd : ((0 : Int) != ar k) = false := by simpa using har
  have hk12 := Lib.hid (show k = 1 ∨ k = 2 by unfold ar at har; repeat' split at har; all_goals omega)
  clear har
  have HZ := Lib.hid (Blk.new' (w := w) (cs := #[.int .i64 k, .int .i64 c, .bool b, .int .i64 n, .slice A 0 cp]) (T := 27) (g := w.heap.size) rfl)
  have HB := Lib.hid (B_alloc (Below.refl w.heap.size w) (.cells #[.int .i64 k, .int .i64 c, .bool b, .int .i64 n, .slice A 0 cp] 27))
  go_enter Try.func44, Try.ntmps44
  go_wp2_with fail
  obtain ⟨w0, hw0⟩ : ∃ x, x = w.alloc (.cells #[.int .i64 k, .int .i64 c, .bool b, .int .i64 n, .slice A 0 cp] 27) := ⟨_, rfl⟩
  rw [← hw0] at HB HZ
  rw [← hw0]
  clear hw0
  have x0 := HZ.out.cell 0 _ rfl
  have x4 := HZ.out.cell 4 _ rfl
  dsimp only [List.getElem_toArray, List.getElem_cons_zero, List.getElem_cons_succ] at x0 x4
  refine wp_region_held_drew (S := (fun w' => w'.cell? ⟨w.heap.size, 0, none⟩ = some (.int .i64 k) ∧ w'.cell? ⟨w.heap.size, 4, none⟩ = some (.slice A 0 cp) ∧ Below w0.heap.size w0 w')) (by kernel_rfl) (init_two x0 x4) (fun hHeld => ?_)
  refine held_take 0 8 _ ?_ rfl rfl (by kernel_rfl) (by kernel_rfl) (by kernel_rfl) (fun _ _ _ h => h) (by kernel_rfl) (fun w' hSw => ?_) (by assumption) ?_
  rotate_left
  · ((try dsimp only at hSw); go_simp; (try with_reducible rfl))
  simp only [Act.put, List.setIfInBounds_toArray, List.set_cons_zero, List.set_cons_succ]
  refine held_take 1 9 _ ?_ rfl rfl (by kernel_rfl) (by kernel_rfl) (by kernel_rfl) (fun _ _ _ h => h) (by kernel_rfl) (fun w' hSw => ?_) (by assumption) ?_
  rotate_left
  · ((try dsimp only at hSw); go_simp; (try with_reducible rfl))
  simp only [Act.put, List.setIfInBounds_toArray, List.set_cons_zero, List.set_cons_succ]
  refine held_take 2 10 _ ?_ rfl rfl (by kernel_rfl) (by kernel_rfl) (by kernel_rfl) (fun _ _ _ h => h) (by kernel_rfl) (fun w' hSw => ?_) (by assumption) ?_
  rotate_left
  · ((try dsimp only at hSw); go_simp; (try with_reducible rfl))
  simp only [Act.put, List.setIfInBounds_toArray, List.set_cons_zero, List.set_cons_succ]
  refine held_take 3 11 _ ?_ rfl rfl (by kernel_rfl) (by kernel_rfl) (by kernel_rfl) (fun _ _ _ h => h) (by kernel_rfl) (fun w' hSw => ?_) (by assumption) ?_
  rotate_left
  · ((try dsimp only at hSw); go_simp; (try with_reducible rfl))
  simp only [Act.put, List.setIfInBounds_toArray, List.set_cons_zero, List.set_cons_succ]
  refine held_take 4 12 _ ?_ rfl rfl (by kernel_rfl) (by kernel_rfl) (by kernel_rfl) (fun _ _ _ h => h) (by kernel_rfl) (fun w' hSw => ?_) (by assumption) ?_
  rotate_left
  · ((try dsimp only at hSw); go_simp; (try with_reducible rfl))
  simp only [Act.put, List.setIfInBounds_toArray, List.set_cons_zero, List.set_cons_succ]
  refine wpAnyH_ready (rs := [5]) (by kernel_rfl) (by simp) ?_
  refine AllReadyH.cons rfl (fun K hK => ?_) AllReadyH.nil
  go_simp
  refine (kidsOf_any _ _).mono ?_; rintro e w1 ⟨rfl, rfl⟩
  go_wp2_with fail
  refine hK.out _ _ (hHeld) (fun hHeld2 => ?_)
  clear hK K
  (try clear hHeld)
  (try simp only [Act.put, List.setIfInBounds_toArray, List.set_cons_zero, List.set_cons_succ])
  refine held_take 6 14 _ ?_ rfl rfl (by kernel_rfl) (by kernel_rfl) (by kernel_rfl) (fun _ _ _ h => h) (by kernel_rfl) (fun w' hSw => ?_) (by assumption) ?_
  rotate_left
  · ((try dsimp only at hSw); go_simp; (try with_reducible rfl))
  simp only [Act.put, List.setIfInBounds_toArray, List.set_cons_zero, List.set_cons_succ]
  refine held_take 7 15 _ ?_ rfl rfl (by kernel_rfl) (by kernel_rfl) (by kernel_rfl) (fun _ _ _ h => h) (by kernel_rfl) (fun w' hSw => ?_) (by assumption) ?_
  rotate_left
  · ((try dsimp only at hSw); go_simp; (try with_reducible rfl))
  simp only [Act.put, List.setIfInBounds_toArray, List.set_cons_zero, List.set_cons_succ]
  refine held_take 8 16 _ ?_ rfl rfl (by kernel_rfl) (by kernel_rfl) (by kernel_rfl) (fun _ _ _ h => h) (by kernel_rfl) (fun w' hSw => ?_) (by assumption) ?_
  rotate_left
  · ((try dsimp only at hSw); go_simp; (try with_reducible rfl))
  simp only [Act.put, List.setIfInBounds_toArray, List.set_cons_zero, List.set_cons_succ]
  refine held_take 9 17 _ ?_ rfl rfl (by kernel_rfl) (by kernel_rfl) (by kernel_rfl) (fun _ _ _ h => h) (by kernel_rfl) (fun w' hSw => ?_) (by assumption) ?_
  rotate_left
  · ((try dsimp only at hSw); go_simp; (try with_reducible rfl))
  simp only [Act.put, List.setIfInBounds_toArray, List.set_cons_zero, List.set_cons_succ]
  refine held_take 10 18 _ ?_ rfl rfl (by kernel_rfl) (by kernel_rfl) (by kernel_rfl) (fun _ _ _ h => h) (by kernel_rfl) (fun w' hSw => ?_) (by assumption) ?_
  rotate_left
  · ((try dsimp only at hSw); go_simp; (try with_reducible rfl))
  simp only [Act.put, List.setIfInBounds_toArray, List.set_cons_zero, List.set_cons_succ]
  refine held_take 11 19 _ ?_ rfl rfl (by kernel_rfl) (by kernel_rfl) (by kernel_rfl) (fun _ _ _ h => h) (by kernel_rfl) (fun w' hSw => ?_) (by assumption) ?_
  rotate_left
  · ((try dsimp only at hSw); go_simp; (try with_reducible rfl))
  simp only [Act.put, List.setIfInBounds_toArray, List.set_cons_zero, List.set_cons_succ]
  refine held_take 12 20 _ ?_ rfl rfl (by kernel_rfl) (by kernel_rfl) (by kernel_rfl) (fun _ _ _ h => h) (by kernel_rfl) (fun w' hSw => ?_) (by assumption) ?_
  rotate_left
  · ((try dsimp only at hSw); go_simp; (try with_reducible rfl))
  simp only [Act.put, List.setIfInBounds_toArray, List.set_cons_zero, List.set_cons_succ]
  refine held_skip 13 21 (by kernel_rfl) (by kernel_rfl) (by kernel_rfl) (by kernel_rfl) (fun _ _ _ h => h) (by kernel_rfl) (by assumption) ?_
  simp only [Act.put, List.setIfInBounds_toArray, List.set_cons_zero, List.set_cons_succ]
  refine held_skip 14 22 (by kernel_rfl) (by kernel_rfl) (by kernel_rfl) (by kernel_rfl) (fun _ _ _ h => h) (by kernel_rfl) (by assumption) ?_
  simp only [Act.put, List.setIfInBounds_toArray, List.set_cons_zero, List.set_cons_succ]
  refine held_take 15 23 _ ?_ rfl rfl (by kernel_rfl) (by kernel_rfl) (by kernel_rfl) (fun _ _ _ h => h) (by kernel_rfl) (fun w' hSw => ?_) (by assumption) ?_
  rotate_left
  · ((try dsimp only at hSw); go_simp; (try with_reducible rfl))
  simp only [Act.put, List.setIfInBounds_toArray, List.set_cons_zero, List.set_cons_succ]
  refine held_take 16 24 _ ?_ rfl rfl (by kernel_rfl) (by kernel_rfl) (by kernel_rfl) (fun _ _ _ h => h) (by kernel_rfl) (fun w' hSw => ?_) (by assumption) ?_
  rotate_left
  · ((try dsimp only at hSw); go_simp; (try with_reducible rfl))
  simp only [Act.put, List.setIfInBounds_toArray, List.set_cons_zero, List.set_cons_succ]
  refine wpAnyH_done (by kernel_rfl) ?_ _
  have HB1 := Lib.hid HB.out.drew
  have HZ1 := Lib.hid HZ.out.drew
  clear x0 x4 HB HZ
  obtain ⟨w2, hw2⟩ : ∃ x, x = w0.drew := ⟨_, rfl⟩
  rw [← hw2] at HB1 HZ1
  rw [← hw2]
  clear hw2
  have x0 := HZ1.out.cell 0 _ rfl
  have x1 := HZ1.out.cell 1 _ rfl
  have x2 := HZ1.out.cell 2 _ rfl
  have x3 := HZ1.out.cell 3 _ rfl
  have x4 := HZ1.out.cell 4 _ rfl
  dsimp only [List.getElem_toArray, List.getElem_cons_zero, List.getElem_cons_succ] at x0 x1 x2 x3 x4
  go_wp2_with fail
  go_loopw [7] (fun i wr => i = .int .i64 0 ∧ wr = w2) (fun _ _ => 0)
  case atStart => exact ⟨rfl, rfl⟩
  case round =>
    obtain ⟨rfl, rfl⟩ := hrel
    rcases hk12.out with rfl | rfl
    · go_wp2_with fail
      refine (inRange_any _ _ _ _).mono ?_; rintro e w' ⟨rfl, rfl⟩
      go_wp2_with fail
      all_goals go_ret
      all_goals refine ⟨ret_of rfl ?_, HB1.out⟩
      all_goals symm
      all_goals show decide ((0 ≤ c ∧ c < W) ∧ b = false ∧ n = 0) = _
      all_goals first
        | exact decide_eq_false (fun h => by omega)
        | exact decide_eq_false (fun h => absurd h.2.1 (by simp; assumption))
        | exact decide_eq_true ⟨⟨by omega, by omega⟩, Bool.eq_false_iff.2 (by assumption), by omega⟩
    · by_cases hc0 : c = 0
      · subst hc0
        go_wp2_with fail
        refine (svalid_any _ _ _).mono ?_; rintro e w3 ⟨rfl, hb⟩
        have HB3 := Lib.hid (B_more HB1.out hb)
        clear hb
        go_wp2_with fail
        go_ret
        refine ⟨ret_of rfl ?_, HB3.out⟩
        show okB b n = decide (0 = 0 ∧ okB b n = true)
        simp
      · go_wp2_with fail
        go_ret
        refine ⟨ret_of rfl ?_, HB1.out⟩
        exact (decide_eq_false (fun h => hc0 h.1)).symm

theorem okE_kid {t : ET} {W : Int} {lv : Nat} {i : Nat} (hi : i < t.m) (h : ¬ (t.kid i).okE W (lv - 1) = true) : t.okE W lv = false := by
  rw [okE_kids, decide_eq_false (p := ∀ i, i < t.m → 0 < lv ∧ (t.kid i).okE W (lv - 1) = true) (fun hh => h (hh i hi).2)]
  simp

theorem sv_lit {t : ET} (IH : t.SvOK) (w : World) (A : Option Addr) (cp : Nat) (W : Int) (lv : Nat) (hA : On w t A) (hM : t.Most 2000000) (hW1 : 1 ≤ W) (hW2 : W ≤ 6) (hlv : lv ≤ 8) (hlv0 : 0 < lv) {x : Bool} (hx : t.okE W (lv - 1) = x) :
    Calls Try.prog 44 #[.agg #[.int .i64 t.k, .int .i64 t.c, .bool t.b, .int .i64 t.n, .slice A t.m cp], .int .i64 W, .int .i64 ((lv : Int) - 1)] w fun e w' => e = .returned (.bool x) ∧ Below w.heap.size w w' := by
  subst hx
  have h := IH w A cp W (lv - 1) hA hM hW1 hW2 (by omega)
  rw [show (lv : Int) - 1 = ((lv - 1 : Nat) : Int) by omega]
  exact h

set_option maxHeartbeats 4000000 in
set_option maxRecDepth 100000 in
theorem sv_node (k c : Int) (b : Bool) (n : Int) (m : Nat) (kid : Nat → ET) (IH : ∀ i, i < m → (kid i).SvOK) (w : World) (A : Option Addr) (cp : Nat) (W : Int) (lv : Nat) (hA : KOn w m kid A) (hM : ∀ i, i < m → (kid i).Most 2000000) (hm : m ≤ 2000000) (hW1 : 1 ≤ W) (hW2 : W ≤ 6) (hlv : lv ≤ 8)
    (hm0 : 0 < m) (hlv0 : 0 < lv) (har : (m : Int) = ar k) :
    Calls Try.prog 44 #[.agg #[.int .i64 k, .int .i64 c, .bool b, .int .i64 n, .slice A m cp], .int .i64 W, .int .i64 lv] w fun e w' => e = .returned (.bool ((ET.mk k c b n m kid).okE W lv)) ∧ Below w.heap.size w w' := by
  have hd : ((m : Int) != ar k) = false := by simpa using har
  have hgt : decide (0 < m) = true := by simpa using hm0
  have hle : ((lv : Int) == 0) = false := by simp; omega
  have hk1 : ¬ k = 1 := fun h => by subst h; simp only [ar] at har; omega
  have hk2 : ¬ k = 2 := fun h => by subst h; simp only [ar] at har; omega
  have HR := Lib.hid har
  have HI := Lib.hid IH
  have HM := Lib.hid hM
  have H1 := Lib.hid (hA.on (B_alloc (Below.refl w.heap.size w) (.cells #[.int .i64 k, .int .i64 c, .bool b, .int .i64 n, .slice A m cp] 27)))
  clear har IH hM hA
  have HZ := Lib.hid (Blk.new' (w := w) (cs := #[.int .i64 k, .int .i64 c, .bool b, .int .i64 n, .slice A m cp]) (T := 27) (g := w.heap.size) rfl)
  have HB := Lib.hid (B_alloc (Below.refl w.heap.size w) (.cells #[.int .i64 k, .int .i64 c, .bool b, .int .i64 n, .slice A m cp] 27))
  go_enter Try.func44, Try.ntmps44
  go_wp2_with fail
  obtain ⟨w0, hw0⟩ : ∃ x, x = w.alloc (.cells #[.int .i64 k, .int .i64 c, .bool b, .int .i64 n, .slice A m cp] 27) := ⟨_, rfl⟩
  rw [← hw0] at HB HZ H1
  rw [← hw0]
  clear hw0
  have x0 := HZ.out.cell 0 _ rfl
  have x4 := HZ.out.cell 4 _ rfl
  dsimp only [List.getElem_toArray, List.getElem_cons_zero, List.getElem_cons_succ] at x0 x4
  go_region_held3 (fun w' => w'.cell? ⟨w.heap.size, 0, none⟩ = some (.int .i64 k) ∧ w'.cell? ⟨w.heap.size, 4, none⟩ = some (.slice A m cp) ∧ Below w0.heap.size w0 w')
    (first | exact init_two x0 x4 | assumption)
    (first | (go_at_call 62; refine (kidsOf_any _ _).mono ?_; rintro e w1 ⟨rfl, rfl⟩))
  have HB1 := Lib.hid HB.out.drew
  have HZ1 := Lib.hid HZ.out.drew
  have H2 := Lib.hid (H1.out.on (Below.refl _ _).drew)
  clear x0 x4 HB HZ H1
  obtain ⟨w2, hw2⟩ : ∃ x, x = w0.drew := ⟨_, rfl⟩
  rw [← hw2] at HB1 HZ1 H2
  rw [← hw2]
  clear hw2
  have hb1 : (k == 1) = false := by simpa using hk1
  have hb2 : (k == 2) = false := by simpa using hk2
  have x4 := HZ1.out.cell 4 _ rfl
  dsimp only [List.getElem_toArray, List.getElem_cons_zero, List.getElem_cons_succ] at x4
  go_wp2_with fail
  clear x4
  go_loopw [7] (fun i wr => ∃ j : Nat, j ≤ m ∧ i = .int .i64 j ∧ (∀ r, r < j → (kid r).okE W (lv - 1) = true) ∧ Below w2.heap.size w2 wr) (fun i _ => m - (intOf i).toNat)
  case atStart => exact ⟨0, by omega, rfl, fun r hr => absurd hr (by omega), Below.refl _ _⟩
  case round =>
    obtain ⟨j, hj, rfl, heq, hB2⟩ := hrel
    have HZr := Lib.hid (HZ1.out.below hB2)
    have HBr := Lib.hid (B_more HB1.out hB2)
    have HBr2 := Lib.hid hB2
    have HQ := Lib.hid heq
    have x4 := HZr.out.cell 4 _ rfl
    dsimp only [List.getElem_toArray, List.getElem_cons_zero, List.getElem_cons_succ] at x4
    by_cases hlt : j < m
    · obtain ⟨bb, o, rfl, hbb, hc⟩ := (H2.out.on hB2) (by omega)
      obtain ⟨A', c', g0, g1, g2, g3, g4, g5⟩ := hc j hlt
      have HK := Lib.hid (show On wr (kid j) A' from g5)
      have hj0 : (0 : Int) ≤ (j : Int) := by omega
      have hj1 : (j : Int) < (m : Int) := by omega
      clear hc g5 heq hB2
      by_cases hx : (kid j).okE W (lv - 1) = true
      · have cc := Lib.hid (sv_lit (HI.out j hlt) _ A' c' W lv HK.out (HM.out j hlt) hW1 hW2 hlv hlv0 hx)
        have HX := Lib.hid hx
        clear hx
        go_wp2_with fail
        refine cc.out.mono ?_; rintro e w3 ⟨rfl, hb⟩
        have HS := Lib.hid (B_more HBr2.out hb)
        have HN : Hid (∀ r, r < j + 1 → (kid r).okE W (lv - 1) = true) := fun r hr => by
          by_cases hrj : r = j
          · subst hrj; exact HX.out
          · exact HQ.out r (by omega)
        clear hb
        go_wp2_with fail
        refine ⟨?_, by simp [intOf]; omega⟩
        first
          | exact ⟨j + 1, by omega, by go_num, HN.out, HS.out⟩
          | ((repeat apply Exists.intro); exact ⟨⟨j + 1, by omega, by go_num, HN.out, HS.out⟩, rfl⟩)
      · have hx' := Bool.eq_false_iff.2 hx
        have cc := Lib.hid (sv_lit (HI.out j hlt) _ A' c' W lv HK.out (HM.out j hlt) hW1 hW2 hlv hlv0 hx')
        have HF := Lib.hid (okE_kid (t := ET.mk k c b n m kid) (W := W) (lv := lv) (i := j) hlt hx)
        clear hx hx'
        go_wp2_with fail
        refine cc.out.mono ?_; rintro e w3 ⟨rfl, hb⟩
        have HS := Lib.hid (B_more HBr.out hb)
        clear hb
        go_wp2_with fail
        go_ret
        exact ⟨ret_of rfl HF.out.symm, HS.out⟩
    · have HV := Lib.hid (show (ET.mk k c b n m kid).okE W lv = decide (c = 0 ∧ b = false ∧ n = 0) by
        rw [okE_kids, decide_eq_true (p := ((ET.mk k c b n m kid).m : Int) = ar (ET.mk k c b n m kid).k) HR.out, decide_eq_true (p := ∀ i, i < (ET.mk k c b n m kid).m → 0 < lv ∧ ((ET.mk k c b n m kid).kid i).okE W (lv - 1) = true) (fun i hi => ⟨hlv0, HQ.out i (by have : i < m := hi; omega)⟩)]
        show (true && headOk k c b n W && true) = _
        unfold headOk
        rw [if_neg hk1, if_neg hk2]
        simp)
      clear heq hB2
      have x0 := HZr.out.cell 0 _ rfl
      have x1 := HZr.out.cell 1 _ rfl
      have x2 := HZr.out.cell 2 _ rfl
      have x3 := HZr.out.cell 3 _ rfl
      dsimp only [List.getElem_toArray, List.getElem_cons_zero, List.getElem_cons_succ] at x0 x1 x2 x3
      go_wp2_with fail
      all_goals go_ret
      all_goals refine ⟨ret_of rfl ?_, HBr.out⟩
      all_goals rw [HV.out]
      all_goals symm
      all_goals first
        | exact decide_eq_false (fun h => by omega)
        | exact decide_eq_false (fun h => absurd h.2.1 (by simp; assumption))
        | exact decide_eq_true ⟨by omega, Bool.eq_false_iff.2 (by assumption), by omega⟩

theorem svalidExpr_step (k c : Int) (b : Bool) (n : Int) (m : Nat) (kid : Nat → ET) (IH : ∀ i, i < m → (kid i).SvOK) : (ET.mk k c b n m kid).SvOK := by
  intro w A cp W lv hA hM hW1 hW2 hlv
  have hM' := most_kids.1 hM
  show Calls _ _ #[.agg #[.int .i64 k, .int .i64 c, .bool b, .int .i64 n, .slice A m cp], .int .i64 W, .int .i64 lv] _ _
  by_cases har : (m : Int) = ar k
  · by_cases hm0 : m = 0
    · subst hm0
      rw [okE_leaf (t := ET.mk k c b n 0 kid) har rfl]
      exact sv_leaf k c b n w A cp W lv hW1 hW2 har
    · by_cases hlz : lv = 0
      · subst hlz
        rw [show (ET.mk k c b n m kid).okE W 0 = false by
          rw [okE_kids, decide_eq_false (p := ∀ i, i < (ET.mk k c b n m kid).m → 0 < 0 ∧ ((ET.mk k c b n m kid).kid i).okE W (0 - 1) = true) (fun h => by have := (h 0 (by show 0 < m; omega)).1; omega)]
          simp]
        exact sv_deep k c b n m w A cp W (by omega) har
      · exact sv_node k c b n m kid IH w A cp W lv (On.kids hA) hM'.2 hM'.1 hW1 hW2 hlv (by omega) (by omega) har
  · rw [okE_ar (t := ET.mk k c b n m kid) har]
    exact sv_ar k c b n m w A cp W lv har
theorem svalidExpr_any (t : ET) : t.SvOK := ET.all svalidExpr_step (fun h w A cp W lv _ _ => okE_no W lv ▸ h w A cp W lv (on_no w A) (most_no _)) t

end ET
end Go.Proofs.Ytfbkbppaignofaa
