/-
  The walks of the functions on one value.
-/
import Derived.Test.YtfbkbppaignofaaRows
import Derived.Test.YtfbkbppaignofaaPlain
import Derived.WalkKit
import Derived.Deep.Draws
import Derived.Lib.Hide
namespace Go.Proofs.Ytfbkbppaignofaa
open Go.RowKit

/-- What a later world says of the blocks below B. -/
theorem stand {B : Nat} {W w1 : World} (hb : Below B W w1) (hB : B ≤ W.heap.size) : (∀ b o, b < B → w1.cell? ⟨b, o, none⟩ = W.cell? ⟨b, o, none⟩) ∧ (∀ b o, b < B → w1.frozen? ⟨b, o, none⟩ = W.frozen? ⟨b, o, none⟩) ∧ B ≤ w1.heap.size :=
  ⟨fun b o h => hb.cell (p := ⟨b, o, none⟩) h, fun b o h => hb.frozen (p := ⟨b, o, none⟩) h, Nat.le_trans hB hb.size⟩

/-- A step more: a call in the world w1 that leaves all that stood there. -/
theorem more {B : Nat} {W w1 w2 : World} (h : Below B W w1) (h2 : Below w1.heap.size w1 w2) (hB : B ≤ W.heap.size) : Below B W w2 :=
  h.trans (h2.mono (Nat.le_trans hB h.size))

theorem B_alloc {W X : World} (h : Below W.heap.size W X) (o : Obj) : Below W.heap.size W (X.alloc o) := h.alloc h.size o
theorem B_more {W X Y : World} (h : Below W.heap.size W X) (k : Below X.heap.size X Y) : Below W.heap.size W Y := h.trans (k.mono h.size)
theorem B_drewN {W X : World} (h : Below W.heap.size W X) (n : Nat) : Below W.heap.size W (X.drewN n) := ⟨h.os, h.tape, h.output, h.size, h.block⟩
theorem B_set {W X : World} (h : Below W.heap.size W X) {p : Addr} (hp : W.heap.size ≤ p.block) (u : Value) : Below W.heap.size W (X.setCell p u) := h.setCell hp u
theorem B_more1 {W X Y : World} {o : Obj} (h : Below W.heap.size W X) (k : Below (X.alloc o).heap.size (X.alloc o) Y) : Below W.heap.size W Y := B_more (B_alloc h o) k
theorem B_more2 {W X Y : World} {o o' : Obj} (h : Below W.heap.size W X) (k : Below ((X.alloc o).alloc o').heap.size ((X.alloc o).alloc o') Y) : Below W.heap.size W Y := B_more (B_alloc (B_alloc h o) o') k
theorem stand0 {W w1 : World} (hb : Below W.heap.size W w1) : (∀ b o, b < W.heap.size → w1.cell? ⟨b, o, none⟩ = W.cell? ⟨b, o, none⟩) ∧ (∀ b o, b < W.heap.size → w1.frozen? ⟨b, o, none⟩ = W.frozen? ⟨b, o, none⟩) ∧ W.heap.size ≤ w1.heap.size :=
  stand hb (Nat.le_refl _)

/-- What stands of the world W0 in a later world: its cells below block N; all below W0's end. -/
theorem S_init {W0 : World} {N : Nat} : (∀ b o, b < N → W0.drew.cell? ⟨b, o, none⟩ = W0.cell? ⟨b, o, none⟩) ∧ Below W0.heap.size W0 W0.drew := ⟨fun _ _ _ => rfl, (Below.refl _ _).drew⟩
theorem S_drew {W0 X : World} {N : Nat} (h : (∀ b o, b < N → X.cell? ⟨b, o, none⟩ = W0.cell? ⟨b, o, none⟩) ∧ Below W0.heap.size W0 X) : (∀ b o, b < N → X.drew.cell? ⟨b, o, none⟩ = W0.cell? ⟨b, o, none⟩) ∧ Below W0.heap.size W0 X.drew := ⟨h.1, h.2.drew⟩
theorem S_step {W0 X w1 : World} {N : Nat} (h : (∀ b o, b < N → X.cell? ⟨b, o, none⟩ = W0.cell? ⟨b, o, none⟩) ∧ Below W0.heap.size W0 X) (hb : Below X.heap.size X w1) (hN : N ≤ W0.heap.size) :
    (∀ b o, b < N → w1.cell? ⟨b, o, none⟩ = W0.cell? ⟨b, o, none⟩) ∧ Below W0.heap.size W0 w1 := by
  have hB := B_more h.2 hb
  exact ⟨fun b o hbn => hB.cell (p := ⟨b, o, none⟩) (Nat.lt_of_lt_of_le hbn hN), hB⟩

def okB (b : Bool) (n : Int) : Bool := (M.V.mk b n).ok
theorem okB_nul (n : Int) : okB true n = decide (n = 0) := by simp [okB, M.V.ok]
theorem okB_num (n : Int) : okB false n = (decide (-9999 ≤ n) && decide (n ≤ 9999)) := by simp [okB, M.V.ok]

theorem inRange_any (n lo hi : Int) (w : World) :
    Calls Try.prog 43 #[.int .i64 n, .int .i64 lo, .int .i64 hi] w fun e w' => e = .returned (.bool (decide (lo ≤ n) && decide (n ≤ hi))) ∧ w = w' := by
  by_cases h1 : lo ≤ n
  · by_cases h2 : n ≤ hi
    · go_enter Try.func43, Try.ntmps43
      go_wp2
      go_ret
      exact ⟨by simp [*], rfl⟩
    · go_enter Try.func43, Try.ntmps43
      go_wp2
      go_ret
      exact ⟨by simp; omega, rfl⟩
  · go_enter Try.func43, Try.ntmps43
    go_wp2
    go_ret
    exact ⟨by simp; omega, rfl⟩

theorem valid_any (b : Bool) (n : Int) (w : World) :
    Calls Try.prog 39 #[.agg #[.bool b, .int .i64 n]] w fun e w' => e = .returned (.bool (okB b n)) ∧ Below w.heap.size w w' := by
  cases b
  · rw [okB_num]
    by_cases h1 : -9999 ≤ n
    · go_enter Try.func39, Try.ntmps39
      go_wp2
      go_ret
      exact ⟨by simp [*], (Below.refl _ _).alloc (Nat.le_refl _) _⟩
    · go_enter Try.func39, Try.ntmps39
      go_wp2
      go_ret
      exact ⟨by simp; omega, (Below.refl _ _).alloc (Nat.le_refl _) _⟩
  · rw [okB_nul]
    go_enter Try.func39, Try.ntmps39
    go_wp2
    go_ret
    exact ⟨by congr 1, (Below.refl _ _).alloc (Nat.le_refl _) _⟩

theorem nb {b : Bool} (h : (!b) = false) : b = true := by simpa using h
theorem ret_bool {a b : Bool} (h : a = b) : Ending.returned (.bool a) = .returned (.bool b) := by rw [h]
theorem ret_int {a b : Int} (h : a = b) : Ending.returned (.int .i64 a) = .returned (.int .i64 b) := by rw [h]

theorem svalid_any (b : Bool) (n : Int) (w : World) :
    Calls Try.prog 55 #[.agg #[.bool b, .int .i64 n]] w fun e w' => e = .returned (.bool (okB b n)) ∧ Below w.heap.size w w' := by
  have H : okB b n = ((decide (-9999 ≤ n) && decide (n ≤ 9999)) && (!b || (n == 0))) := by
    cases b
    · rw [okB_num]; simp
    · rw [okB_nul]
      rw [Bool.eq_iff_iff]
      simp
      omega
  rw [H]
  clear H
  go_enter Try.func55, Try.ntmps55
  go_wp2_with (go_at_call 43; refine (inRange_any _ _ _ _).mono ?_; rintro e w' ⟨rfl, rfl⟩)
  all_goals
    go_ret
    exact ⟨ret_bool (by simp [*]), (Below.refl _ _).alloc (Nat.le_refl _) _⟩

theorem Valid_any (b : Bool) (n : Int) (w : World) :
    Calls Try.prog 16 #[.agg #[.bool b, .int .i64 n]] w fun e w' => e = .returned (.bool (okB b n)) ∧ Below w.heap.size w w' := by
  go_enter Try.func16, Try.ntmps16
  go_wp2_with (go_at_call 39; refine (valid_any _ _ _).mono ?_; rintro e w1 ⟨rfl, hb⟩)
  go_ret
  exact ⟨rfl, ((Below.refl _ _).alloc (Nat.le_refl _) _).trans (hb.mono (by simp))⟩

theorem toValue_any (b : Bool) (n : Int) (w : World) :
    Calls Try.prog 45 #[.agg #[.bool b, .int .i64 n]] w fun e w' => e = .returned (.agg #[.bool b, .int .i64 n]) ∧ Below w.heap.size w w' := by
  go_enter Try.func45, Try.ntmps45
  go_wp2
  exact bodyPost_ret (v := .agg #[.bool b, .int .i64 n]) (by simp [results, Try.results45, go_sem]) rfl ⟨rfl, (((Below.refl _ _).alloc (Nat.le_refl _) _).alloc (by simp) _).alloc (by simp; omega) _⟩

end Go.Proofs.Ytfbkbppaignofaa
