/-
  A slice of values made anew.
-/
import Derived.Test.YtfbkbppaignofaaLineA
import Derived.Laws.MakeOwn
namespace Go.Proofs.Ytfbkbppaignofaa
open Go.RowKit

theorem infoV : (Try.prog.info? 24).map (fun i => (i.zero, i.size, i.bytes)) = some (some (.agg #[.bool false, .int .i64 0]), 2, 16) := by kernel_rfl

def szS (left n : Int) : Int := if left - n < 0 then -1 else left - n
theorem szS_neg {left n : Int} (h : left - n < 0) : szS left n = -1 := if_pos h
theorem szS_pos {left n : Int} (h : ¬ left - n < 0) : szS left n = left - n := if_neg h

theorem szValueS_any (w : World) (A : Option Addr) (n c : Nat) (left : Int) (h1 : 0 ≤ left) (h2 : left ≤ 1048576) (hn : n ≤ 9223372036854775807) :
    Calls Try.prog 25 #[.slice A n c, .int .i64 left] w fun e w' => e = .returned (.int .i64 (szS left n)) ∧ w = w' := by
  by_cases h : left - (n : Int) < 0
  · rw [szS_neg h]
    go_enter Try.func25, Try.ntmps25
    go_wp2
    go_ret
    exact ⟨rfl, rfl⟩
  · rw [szS_pos h]
    go_enter Try.func25, Try.ntmps25
    go_wp2
    go_ret
    exact ⟨rfl, rfl⟩

/-- A block of two-cell values of one's own, the first k of which are f 0 .. f (k-1). -/
def Filling (w : World) (g n k : Nat) (f : Nat → M.V) : Prop :=
  ∃ cs : Array Value, w.heap[g]? = some (.cells cs 24 (0, 0)) ∧ cs.size = n * 2 ∧ ∀ i, i < k → cs[i * 2]? = some (.bool (f i).nul) ∧ cs[i * 2 + 1]? = some (.int .i64 (f i).n)

theorem Filling.cells {w : World} {g n k : Nat} {f : Nat → M.V} (h : Filling w g n k f) (j : Nat) (hj : j < n) :
    (∃ v, w.cell? ⟨g, j * 2, none⟩ = some v) ∧ (∃ v, w.cell? ⟨g, j * 2 + 1, none⟩ = some v) ∧ w.frozen? ⟨g, j * 2, none⟩ = false ∧ w.frozen? ⟨g, j * 2 + 1, none⟩ = false := by
  obtain ⟨cs, hg, hs, _⟩ := h
  have e : ∀ i, w.cell? ⟨g, i, none⟩ = cs[i]? := fun i => cell_of_row w g i cs _ _ hg
  refine ⟨?_, ?_, ?_, ?_⟩
  · exact ⟨_, (e _).trans (Array.getElem?_eq_getElem (by omega))⟩
  · exact ⟨_, (e _).trans (Array.getElem?_eq_getElem (by omega))⟩
  · simp [World.frozen?, hg]
  · simp [World.frozen?, hg]

theorem Filling.put {w : World} {g n k : Nat} {f : Nat → M.V} (h : Filling w g n k f) (hk : k < n) (b : Bool) (m : Int) (hb : (f k).nul = b) (hm : (f k).n = m) :
    Filling ((w.setCell ⟨g, k * 2, none⟩ (.bool b)).setCell ⟨g, k * 2 + 1, none⟩ (.int .i64 m)) g n (k + 1) f := by
  obtain ⟨cs, hg, hs, hc⟩ := h
  refine ⟨(cs.setIfInBounds (k * 2) (.bool b)).setIfInBounds (k * 2 + 1) (.int .i64 m), ?_, by simp [hs], fun i hi => ?_⟩
  · simp [World.setCell, Array.getElem?_modify, hg]
  · by_cases hik : i = k
    · subst hik
      subst hb hm
      constructor
      · rw [Array.getElem?_setIfInBounds_ne (by omega), Array.getElem?_setIfInBounds_self_of_lt (by omega)]
      · rw [Array.getElem?_setIfInBounds_self_of_lt (by simp; omega)]
    · have := hc i (by omega)
      constructor
      · rw [Array.getElem?_setIfInBounds_ne (by omega), Array.getElem?_setIfInBounds_ne (by omega)]; exact this.1
      · rw [Array.getElem?_setIfInBounds_ne (by omega), Array.getElem?_setIfInBounds_ne (by omega)]; exact this.2

theorem Filling.below {w w' : World} {g n k : Nat} {f : Nat → M.V} (h : Filling w g n k f) (hb : Below w.heap.size w w') : Filling w' g n k f := by
  obtain ⟨cs, hg, hs, hc⟩ := h
  have hlt : g < w.heap.size := (Array.getElem?_eq_some_iff.1 hg).1
  exact ⟨cs, (hb.block g hlt).trans hg, hs, hc⟩

theorem Filling.row {w : World} {g n : Nat} {f : Nat → M.V} (h : Filling w g n n f) : RowAt w w.heap.size (some ⟨g, 0, none⟩) n f := fun _ => by
  obtain ⟨cs, hg, hs, hc⟩ := h
  have hlt : g < w.heap.size := (Array.getElem?_eq_some_iff.1 hg).1
  refine ⟨g, 0, rfl, hlt, fun i hi => ?_⟩
  have := hc i hi
  rw [Nat.zero_add]
  exact ⟨(cell_of_row w g _ cs _ _ hg).trans this.1, (cell_of_row w g _ cs _ _ hg).trans this.2⟩

/-- A new slice of the call's own that reads as f. -/
def ToPost (w : World) (n : Nat) (f : Nat → M.V) (e : Ending) (w' : World) : Prop :=
  ∃ g, e = .returned (.slice (some ⟨g, 0, none⟩) n n) ∧ w.heap.size ≤ g ∧ Filling w' g n n f ∧ Below w.heap.size w w'

theorem toValueS_any (w : World) (A : Option Addr) (n c : Nat) (f : Nat → M.V) (hA : RowAt w w.heap.size A n f) (hn : n ≤ 1048576) :
    Calls Try.prog 26 #[.slice A n c] w (ToPost w n f) := by
  obtain ⟨i0, hi0, hz0, hz1, hz2⟩ := info_parts infoV
  have H1 := Lib.hid hA
  clear hA
  have hmk := fun (w : World) => run_make (P := Try.prog) w 28 24 i0 _ Try.underlying28 hi0 hz0 .i64 .i64 (n : Int) (n : Int) (by omega) (Int.le_refl _) (by rw [hz2]; omega) (by omega)
  simp only [Int.toNat_natCast, hz1] at hmk
  have hfill : ∀ w : World, Filling (w.alloc (.cells (madeCells (Value.agg #[.bool false, .int .i64 0]).cells (n * 2)) 24)) w.heap.size n 0 f := fun w =>
    ⟨_, heap_alloc_new w _, by rw [size_madeCells], fun i hi => absurd hi (by omega)⟩
  have HF := Lib.hid (hfill w)
  clear hfill hz1 hz2 hz0 hi0
  go_enter Try.func26, Try.ntmps26
  go_wp2_with fail
  obtain ⟨g, hg⟩ : ∃ g, g = w.heap.size := ⟨_, rfl⟩
  have hB0 := Lib.hid (B_alloc (Below.refl w.heap.size w) (.cells (madeCells (Value.agg #[.bool false, .int .i64 0]).cells (n * 2)) 24))
  have HG := Lib.hid hg
  rw [← hg] at HF
  rw [← hg]
  clear hg hmk
  go_loopw [4] (fun i wr => ∃ k : Nat, k ≤ n ∧ i = .int .i64 k ∧ Filling wr g n k f ∧ Below w.heap.size w wr) (fun i _ => n - (intOf i).toNat)
  case atStart => exact ⟨0, by omega, rfl, HF.out, hB0.out⟩
  case round =>
    obtain ⟨k, hk, rfl, hF, hB⟩ := hrel
    clear HF hB0
    by_cases hlt : k < n
    · obtain ⟨b, o, rfl, hb, hc⟩ := (H1.out.below hB) (by omega)
      obtain ⟨x0, x1⟩ := hc k hlt
      have hF' := Lib.hid hF
      have HB := Lib.hid hB
      clear hF hB hc
      have hk0 : (0 : Int) ≤ (k : Int) := by omega
      have hk1 : (k : Int) < (n : Int) := by omega
      go_wp2_with fail
      refine (toValue_any _ _ _).mono ?_; rintro e w1 ⟨rfl, hb1⟩
      have HS := Lib.hid (B_more HB.out hb1)
      have hF2 := Lib.hid (hF'.out.below hb1)
      obtain ⟨⟨v0, y0⟩, ⟨v1, y1⟩, y2, y3⟩ := hF2.out.cells k hlt
      have y4 : (w1.setCell ⟨g, k * 2, none⟩ (.bool (f k).nul)).cell? ⟨g, k * 2 + 1, none⟩ = some v1 := by rw [World.cell?_setCell_other _ _ _ _ (by simp)]; exact y1
      have HFN := Lib.hid (hF2.out.put hlt _ _ rfl rfl)
      have HSN := Lib.hid (B_set (B_set HS.out (p := ⟨g, k * 2, none⟩) (by rw [HG.out]; exact Nat.le_refl _) (.bool (f k).nul)) (p := ⟨g, k * 2 + 1, none⟩) (by rw [HG.out]; exact Nat.le_refl _) (.int .i64 (f k).n))
      clear hb1
      go_wp2_with fail
      refine ⟨?_, by simp [intOf]; omega⟩
      first
        | exact ⟨k + 1, by omega, by go_num, HFN.out, HSN.out⟩
        | ((repeat apply Exists.intro); exact ⟨⟨k + 1, by omega, by go_num, HFN.out, HSN.out⟩, rfl⟩)
    · obtain rfl : k = n := by omega
      have HF' := Lib.hid hF
      have HB := Lib.hid hB
      clear hF hB
      go_wp2_with fail
      go_ret
      exact ⟨g, rfl, Nat.le_of_eq HG.out.symm, HF'.out, HB.out⟩

theorem eqRow_self (n : Nat) (f : Nat → M.V) : eqRow n f f = true := by simp [eqRow]

/-- A slice of values that came in. -/
structure LineX where
  A : Option Addr
  n : Nat
  c : Nat
  f : Nat → M.V
def IsLine (w : World) (v : Value) (x : LineX) : Prop := v = .slice x.A x.n x.c ∧ RowAt w w.heap.size x.A x.n x.f ∧ x.n ≤ 9223372036854775807

theorem eq_line {w : World} {A A' : Option Addr} {n c c' : Nat} {f : Nat → M.V} (hA : RowAt w w.heap.size A n f) (hA' : RowAt w w.heap.size A' n f) (hn : n ≤ 2000000) :
    Calls Try.prog 28 #[.slice A n c, .slice A' n c'] w fun e w' => e = .returned (.bool true) ∧ Below w.heap.size w w' :=
  (eqValueS_any w A A' n n c c' f f hA hA' hn hn).mono fun e w' h => ⟨by rw [h.1, eqRow_self]; simp, h.2⟩

end Go.Proofs.Ytfbkbppaignofaa
