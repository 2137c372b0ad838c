/-
  The walks of the functions that look whether a row is valid.
-/
import Derived.Test.YtfbkbppaignofaaLine
namespace Go.Proofs.Ytfbkbppaignofaa
open Go.RowKit

def okRow (n : Nat) (f : Nat → M.V) : Bool := decide (1 ≤ n ∧ n ≤ 6 ∧ ∀ i, i < n → (f i).ok = true)

theorem okV_ne {v : M.V} (h : (!okB v.nul v.n) = true) : ¬ v.ok = true := fun e => by
  have : okB v.nul v.n = true := e
  rw [this] at h
  cases h
theorem okV_eq {v : M.V} (h : (!okB v.nul v.n) = false) : v.ok = true := by
  have : okB v.nul v.n = true := nb h
  exact this

theorem validWidth_any (n : Nat) (w : World) (hn : n ≤ 2000000) :
    Calls Try.prog 40 #[.int .i64 (n : Int)] w fun e w' => e = .returned (.bool (decide (1 ≤ n ∧ n ≤ 6))) ∧ w = w' := by
  by_cases h1 : (1 : Int) ≤ (n : Int)
  · go_enter Try.func40, Try.ntmps40
    go_wp2
    go_ret
    exact ⟨ret_bool (by rw [Bool.eq_iff_iff]; simp; omega), rfl⟩
  · go_enter Try.func40, Try.ntmps40
    go_wp2
    go_ret
    exact ⟨ret_bool (by simp; omega), rfl⟩

theorem validWidth_int (W : Int) (w : World) :
    Calls Try.prog 40 #[.int .i64 W] w fun e w' => e = .returned (.bool (decide (1 ≤ W ∧ W ≤ 6))) ∧ w = w' := by
  by_cases h1 : (1 : Int) ≤ W
  · go_enter Try.func40, Try.ntmps40
    go_wp2
    go_ret
    exact ⟨ret_bool (by rw [Bool.eq_iff_iff]; simp; omega), rfl⟩
  · go_enter Try.func40, Try.ntmps40
    go_wp2
    go_ret
    exact ⟨ret_bool (by rw [Bool.eq_iff_iff]; simp; omega), rfl⟩
theorem validWidth_lit {W : Int} {w : World} {x : Bool} (h : decide (1 ≤ W ∧ W ≤ 6) = x) :
    Calls Try.prog 40 #[.int .i64 W] w fun e w' => e = .returned (.bool x) ∧ w = w' := by
  subst h
  exact validWidth_int W w

theorem validRow_any (w : World) (A : Option Addr) (n c : Nat) (f : Nat → M.V) (hA : RowAt w w.heap.size A n f) (hn : n ≤ 2000000) :
    Calls Try.prog 35 #[.slice A n c] w fun e w' => e = .returned (.bool (okRow n f)) ∧ Below w.heap.size w w' := by
  have H1 := Lib.hid hA
  clear hA
  by_cases hw : 1 ≤ n ∧ n ≤ 6
  · have hd : decide (1 ≤ n ∧ n ≤ 6) = true := decide_eq_true hw
    obtain ⟨hw1, hw2⟩ := hw
    have cw := Lib.hid (validWidth_any n w hn)
    rw [hd] at cw
    clear hd
    go_enter Try.func35, Try.ntmps35
    go_wp2_with fail
    refine cw.out.mono ?_; rintro e w' ⟨rfl, rfl⟩
    go_wp2_with fail
    go_loopw [11] (fun i wr => ∃ k : Nat, k ≤ n ∧ i = .int .i64 k ∧ (∀ j, j < k → (f j).ok = true) ∧ Below w.heap.size w wr) (fun i _ => n - (intOf i).toNat)
    case atStart => exact ⟨0, by omega, rfl, fun j hj => absurd hj (by omega), Below.refl _ _⟩
    case round =>
      obtain ⟨k, hk, rfl, heq, hB⟩ := hrel
      by_cases hlt : k < n
      · obtain ⟨b, o, rfl, hb, hc⟩ := (H1.out.below hB) (by omega)
        obtain ⟨x0, x1⟩ := hc k hlt
        have HQ := Lib.hid heq
        have HB := Lib.hid hB
        clear heq hB hc
        have hk0 : (0 : Int) ≤ (k : Int) := by omega
        have hk1 : (k : Int) < (n : Int) := by omega
        go_wp2_with fail
        refine (valid_any _ _ _).mono ?_; rintro e w1 ⟨rfl, hb1⟩
        have HS := Lib.hid (B_more (B_alloc HB.out _) hb1)
        clear hb1
        go_wp2_with fail
        · have hbad := okV_ne (v := f k) (by assumption)
          go_ret
          exact ⟨ret_bool (by simp [okRow]; exact fun _ _ => ⟨k, hlt, by simpa using hbad⟩), HS.out⟩
        · have hok := okV_eq (v := f k) (by assumption)
          have HN : ∀ j, j < k + 1 → (f j).ok = true := fun j hj => by
            by_cases hjk : j = k
            · subst hjk; exact hok
            · exact HQ.out j (by omega)
          refine ⟨?_, by simp [intOf]; omega⟩
          first
            | exact ⟨k + 1, by omega, by go_num, HN, HS.out⟩
            | ((repeat apply Exists.intro); exact ⟨⟨k + 1, by omega, by go_num, HN, HS.out⟩, rfl⟩)
      · have HQ := Lib.hid heq
        have HB := Lib.hid hB
        clear heq hB
        go_wp2_with fail
        go_ret
        exact ⟨ret_bool (by simp [okRow]; exact ⟨hw1, hw2, fun i hi => HQ.out i (by omega)⟩), HB.out⟩
  · have hd : decide (1 ≤ n ∧ n ≤ 6) = false := decide_eq_false hw
    have cw := Lib.hid (validWidth_any n w hn)
    rw [hd] at cw
    clear hd
    have HW := Lib.hid hw
    clear hw
    go_enter Try.func35, Try.ntmps35
    go_wp2_with fail
    refine cw.out.mono ?_; rintro e w' ⟨rfl, rfl⟩
    go_wp2_with fail
    go_ret
    exact ⟨ret_bool (by simp [okRow]; intro h1 h2; exact absurd ⟨h1, h2⟩ HW.out), Below.refl _ _⟩

theorem svalidRow_any (w : World) (A : Option Addr) (n c : Nat) (f : Nat → M.V) (hA : RowAt w w.heap.size A n f) (hn : n ≤ 2000000) :
    Calls Try.prog 37 #[.slice A n c] w fun e w' => e = .returned (.bool (okRow n f)) ∧ Below w.heap.size w w' := by
  have H1 := Lib.hid hA
  clear hA
  go_enter Try.func37, Try.ntmps37
  go_wp2_with fail
  go_loopw [3] (fun i wr => ∃ k : Nat, k ≤ n ∧ i = .int .i64 k ∧ (∀ j, j < k → (f j).ok = true) ∧ Below w.heap.size w wr) (fun i _ => n - (intOf i).toNat)
  case atStart => exact ⟨0, by omega, rfl, fun j hj => absurd hj (by omega), Below.refl _ _⟩
  case round =>
    obtain ⟨k, hk, rfl, heq, hB⟩ := hrel
    by_cases hlt : k < n
    · obtain ⟨b, o, rfl, hb, hc⟩ := (H1.out.below hB) (by omega)
      obtain ⟨x0, x1⟩ := hc k hlt
      have HQ := Lib.hid heq
      have HB := Lib.hid hB
      clear heq hB hc
      have hk0 : (0 : Int) ≤ (k : Int) := by omega
      have hk1 : (k : Int) < (n : Int) := by omega
      go_wp2_with fail
      refine (svalid_any _ _ _).mono ?_; rintro e w1 ⟨rfl, hb1⟩
      have HS := Lib.hid (B_more HB.out hb1)
      clear hb1
      go_wp2_with fail
      · have hbad := okV_ne (v := f k) (by assumption)
        go_ret
        exact ⟨ret_bool (by simp [okRow]; exact fun _ _ => ⟨k, hlt, by simpa using hbad⟩), HS.out⟩
      · have hok := okV_eq (v := f k) (by assumption)
        have HN : ∀ j, j < k + 1 → (f j).ok = true := fun j hj => by
          by_cases hjk : j = k
          · subst hjk; exact hok
          · exact HQ.out j (by omega)
        refine ⟨?_, by simp [intOf]; omega⟩
        first
          | exact ⟨k + 1, by omega, by go_num, HN, HS.out⟩
          | ((repeat apply Exists.intro); exact ⟨⟨k + 1, by omega, by go_num, HN, HS.out⟩, rfl⟩)
    · have HQ := Lib.hid heq
      have HB := Lib.hid hB
      clear heq hB
      go_wp2_with fail
      refine (inRange_any _ _ _ _).mono ?_; rintro e w' ⟨rfl, rfl⟩
      go_wp2_with fail
      go_ret
      refine ⟨ret_bool ?_, HB.out⟩
      unfold okRow
      rw [Bool.eq_iff_iff]
      simp only [Bool.and_eq_true, decide_eq_true_eq]
      constructor
      · rintro ⟨h1, h2⟩
        exact ⟨by omega, by omega, fun i hi => HQ.out i (by omega)⟩
      · rintro ⟨h1, h2, _⟩
        exact ⟨by omega, by omega⟩

theorem okRow_all {n : Nat} {f : Nat → M.V} (h : okRow n f = true) : ∀ i, i < n → (f i).ok = true := (of_decide_eq_true h).2.2

theorem validRow_lit {w : World} {A : Option Addr} {n c : Nat} {f : Nat → M.V} {x : Bool} (hA : RowAt w w.heap.size A n f) (hn : n ≤ 2000000) (h : okRow n f = x) :
    Calls Try.prog 35 #[.slice A n c] w fun e w' => e = .returned (.bool x) ∧ Below w.heap.size w w' := by
  subst h
  exact validRow_any w A n c f hA hn
theorem svalidRow_lit {w : World} {A : Option Addr} {n c : Nat} {f : Nat → M.V} {x : Bool} (hA : RowAt w w.heap.size A n f) (hn : n ≤ 2000000) (h : okRow n f = x) :
    Calls Try.prog 37 #[.slice A n c] w fun e w' => e = .returned (.bool x) ∧ Below w.heap.size w w' := by
  subst h
  exact svalidRow_any w A n c f hA hn
/-- A row in a later world. -/
theorem RowAt.on {w w' : World} {A : Option Addr} {n : Nat} {f : Nat → M.V} (h : RowAt w w.heap.size A n f) (hb : Below w.heap.size w w') : RowAt w' w'.heap.size A n f := (h.below hb).more hb.size

end Go.Proofs.Ytfbkbppaignofaa
