/-
  Rows of values in memory, and the walks of the functions on rows.
-/
import Derived.Test.YtfbkbppaignofaaVal
import Derived.Deep.RegionHeld3
import Derived.Deep.LoopGhost
import Derived.Laws.OwnMore
namespace Go.Proofs.Ytfbkbppaignofaa
open Go.RowKit

/-- The slice value '.slice A n c' reads as the values f 0 .. f (n-1); its cells lie below block B. -/
def RowAt (w : World) (B : Nat) (A : Option Addr) (n : Nat) (f : Nat → M.V) : Prop :=
  0 < n → ∃ b o, A = some ⟨b, o, none⟩ ∧ b < B ∧ ∀ i, i < n → w.cell? ⟨b, o + i * 2, none⟩ = some (.bool (f i).nul) ∧ w.cell? ⟨b, o + i * 2 + 1, none⟩ = some (.int .i64 (f i).n)

theorem RowAt.below {w w' : World} {B : Nat} {A : Option Addr} {n : Nat} {f : Nat → M.V} (h : RowAt w B A n f) (hb : Below B w w') : RowAt w' B A n f := fun hn => by
  obtain ⟨b, o, hA, hlt, hc⟩ := h hn
  exact ⟨b, o, hA, hlt, fun i hi => ⟨(hb.cell (p := ⟨b, _, none⟩) hlt).trans (hc i hi).1, (hb.cell (p := ⟨b, _, none⟩) hlt).trans (hc i hi).2⟩⟩
theorem RowAt.more {w : World} {B B' : Nat} {A : Option Addr} {n : Nat} {f : Nat → M.V} (h : RowAt w B A n f) (hB : B ≤ B') : RowAt w B' A n f := fun hn => by
  obtain ⟨b, o, hA, hlt, hc⟩ := h hn
  exact ⟨b, o, hA, by omega, hc⟩

/-- Are two values one? -/
def eqVB (b1 : Bool) (n1 : Int) (b2 : Bool) (n2 : Int) : Bool := decide ((⟨b1, n1⟩ : M.V) = ⟨b2, n2⟩)
theorem eqVB_true {u v : M.V} (h : u = v) : eqVB u.nul u.n v.nul v.n = true := by subst h; simp [eqVB]
theorem eqVB_false {u v : M.V} (h : u ≠ v) : eqVB u.nul u.n v.nul v.n = false := by
  unfold eqVB
  exact decide_eq_false h

theorem eqVB_ne {u v : M.V} (h : (!eqVB u.nul u.n v.nul v.n) = true) : u ≠ v := fun e => by rw [eqVB_true e] at h; cases h
theorem eqVB_eq {u v : M.V} (h : (!eqVB u.nul u.n v.nul v.n) = false) : u = v := by
  refine Decidable.byContradiction fun e => ?_
  rw [eqVB_false e] at h
  cases h

theorem eqValue_any (b1 : Bool) (n1 : Int) (b2 : Bool) (n2 : Int) (w : World) :
    Calls Try.prog 27 #[.agg #[.bool b1, .int .i64 n1], .agg #[.bool b2, .int .i64 n2]] w fun e w' => e = .returned (.bool (eqVB b1 n1 b2 n2)) ∧ Below w.heap.size w w' := by
  have h0 : ∀ o1 o2, Below w.heap.size w ((w.alloc o1).alloc o2) := fun o1 o2 => B_alloc (B_alloc (Below.refl _ _) _) _
  go_enter Try.func27, Try.ntmps27
  go_wp2_with fail
  all_goals go_ret
  all_goals refine ⟨ret_bool ?_, h0 _ _⟩
  all_goals clear h0
  all_goals unfold eqVB
  all_goals first | (subst_vars; simp; done) | (simp_all; done)

theorem keep_cell {X w1 : World} {a : Addr} {v : Value} (h : X.cell? a = some v) (hb : Below X.heap.size X w1) : w1.cell? a = some v :=
  (hb.cell (World.block_lt_of_cell? X a h)).trans h
theorem keep_two {wr X w1 : World} {a1 a2 : Addr} {v1 v2 : Value} (h : X.cell? a1 = some v1 ∧ X.cell? a2 = some v2 ∧ Below wr.heap.size wr X) (hb : Below X.heap.size X w1) :
    w1.cell? a1 = some v1 ∧ w1.cell? a2 = some v2 ∧ Below wr.heap.size wr w1 :=
  ⟨keep_cell h.1 hb, keep_cell h.2.1 hb, B_more h.2.2 hb⟩
theorem init_two {wr : World} {a1 a2 : Addr} {v1 v2 : Value} (h1 : wr.cell? a1 = some v1) (h2 : wr.cell? a2 = some v2) :
    wr.drew.cell? a1 = some v1 ∧ wr.drew.cell? a2 = some v2 ∧ Below wr.heap.size wr wr.drew :=
  ⟨h1, h2, (Below.refl _ _).drew⟩
theorem keep_four {wr X w1 : World} {a1 a2 a3 a4 : Addr} {v1 v2 v3 v4 : Value} (h : X.cell? a1 = some v1 ∧ X.cell? a2 = some v2 ∧ X.cell? a3 = some v3 ∧ X.cell? a4 = some v4 ∧ Below wr.heap.size wr X) (hb : Below X.heap.size X w1) :
    w1.cell? a1 = some v1 ∧ w1.cell? a2 = some v2 ∧ w1.cell? a3 = some v3 ∧ w1.cell? a4 = some v4 ∧ Below wr.heap.size wr w1 :=
  ⟨keep_cell h.1 hb, keep_cell h.2.1 hb, keep_cell h.2.2.1 hb, keep_cell h.2.2.2.1 hb, B_more h.2.2.2.2 hb⟩
theorem init_four {wr : World} {a1 a2 a3 a4 : Addr} {v1 v2 v3 v4 : Value} (h1 : wr.cell? a1 = some v1) (h2 : wr.cell? a2 = some v2) (h3 : wr.cell? a3 = some v3) (h4 : wr.cell? a4 = some v4) :
    wr.drew.cell? a1 = some v1 ∧ wr.drew.cell? a2 = some v2 ∧ wr.drew.cell? a3 = some v3 ∧ wr.drew.cell? a4 = some v4 ∧ Below wr.heap.size wr wr.drew :=
  ⟨h1, h2, h3, h4, (Below.refl _ _).drew⟩

/-- How many of the first values are equal: the loop's test. -/
def eqRow (n : Nat) (f g : Nat → M.V) : Bool := decide (∀ i, i < n → f i = g i)

theorem eqValueS_any (w : World) (A A' : Option Addr) (n m c c' : Nat) (f g : Nat → M.V) (hA : RowAt w w.heap.size A n f) (hA' : RowAt w w.heap.size A' m g) (hn : n ≤ 2000000) (hm : m ≤ 2000000) :
    Calls Try.prog 28 #[.slice A n c, .slice A' m c'] w fun e w' => e = .returned (.bool (decide (n = m) && eqRow n f g)) ∧ Below w.heap.size w w' := by
  by_cases hnm : n = m
  · subst hnm
    have H1 := Lib.hid hA
    have H2 := Lib.hid hA'
    clear hA hA'
    go_enter Try.func28, Try.ntmps28
    go_wp2_with fail
    go_loopw [5] (fun i wr => ∃ k : Nat, k ≤ n ∧ i = .int .i64 k ∧ (∀ j, j < k → f j = g j) ∧ Below w.heap.size w wr) (fun i _ => n - (intOf i).toNat)
    case atStart => exact ⟨0, by omega, rfl, fun j hj => absurd hj (by omega), Below.refl _ _⟩
    case round =>
      obtain ⟨k, hk, rfl, heq, hB⟩ := hrel
      by_cases hlt : k < n
      · obtain ⟨b, o, rfl, hb, hc⟩ := (H1.out.below hB) (by omega)
        obtain ⟨b', o', rfl, hb', hc'⟩ := (H2.out.below hB) (by omega)
        obtain ⟨x0, x1⟩ := hc k hlt
        obtain ⟨y0, y1⟩ := hc' k hlt
        have HQ := Lib.hid heq
        have HB := Lib.hid hB
        clear heq hB hc hc'
        have hk0 : (0 : Int) ≤ (k : Int) := by omega
        have hk1 : (k : Int) < (n : Int) := by omega
        go_wp2_with fail
        go_region_held3 (fun w' => w'.cell? ⟨b, o + k * 2, none⟩ = some (.bool (f k).nul) ∧ w'.cell? ⟨b, o + k * 2 + 1, none⟩ = some (.int .i64 (f k).n) ∧ w'.cell? ⟨b', o' + k * 2, none⟩ = some (.bool (g k).nul) ∧ w'.cell? ⟨b', o' + k * 2 + 1, none⟩ = some (.int .i64 (g k).n) ∧ Below wr.heap.size wr w')
          (first | exact init_four x0 x1 y0 y1 | exact keep_four (by assumption) hb1)
          (first | (go_at_call 27; refine (eqValue_any _ _ _ _ _).mono ?_; rintro e w1 ⟨rfl, hb1⟩))
        have hS : Below wr.heap.size wr w1 := (by assumption : _ ∧ _ ∧ _ ∧ _ ∧ Below wr.heap.size wr w1).2.2.2.2
        have HS := Lib.hid (HB.out.trans (hS.mono HB.out.size))
        clear hS
        go_wp2_with fail
        · have hfg := eqVB_ne (u := f k) (v := g k) (by assumption)
          go_ret
          exact ⟨ret_bool (by simp [eqRow]; exact ⟨k, hlt, hfg⟩), HS.out⟩
        · have hfg := eqVB_eq (u := f k) (v := g k) (by assumption)
          have HN : ∀ j, j < k + 1 → f j = g j := fun j hj => by
            by_cases hjk : j = k
            · subst hjk; exact hfg
            · exact HQ.out j (by omega)
          refine ⟨?_, by simp [intOf]; omega⟩
          first
            | exact ⟨k + 1, by omega, by go_num, HN, HS.out⟩
            | ((repeat apply Exists.intro); exact ⟨⟨k + 1, by omega, by go_num, HN, HS.out⟩, rfl⟩)
      · have HQ := Lib.hid heq
        have HB := Lib.hid hB
        clear heq hB
        go_wp2_with fail
        go_ret
        exact ⟨ret_bool (by simp [eqRow]; exact fun i hi => HQ.out i (by omega)), HB.out⟩
  · have hd : decide ((n : Int) = (m : Int)) = false := by simpa using (by omega : ¬ (n : Int) = (m : Int))
    clear hA hA'
    go_enter Try.func28, Try.ntmps28
    go_wp2_with fail
    go_ret
    exact ⟨ret_bool (by simp [hnm]), Below.refl _ _⟩
end Go.Proofs.Ytfbkbppaignofaa
