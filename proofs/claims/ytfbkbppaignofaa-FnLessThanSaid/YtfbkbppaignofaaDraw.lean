/-
  The walks of the functions that draw values.
-/
import Derived.Test.YtfbkbppaignofaaRead
import Derived.Test.YtfbkbppaignofaaOpen
import Derived.Deep.RegionHeld3
namespace Go.Proofs.Ytfbkbppaignofaa
open Go.RowKit

theorem anyValue_any (w : World) (B rb K : Nat) (hK : K ≤ 10000000) (hr : Rd w B rb K) :
    Calls Try.prog 52 #[.pointer (some ⟨rb, 0, none⟩)] w (ValPost w B rb (K + 4)) := by
  have hlt := hr.lt
  have hbase := hr.base
  have hne : w.heap.size ≠ rb := by omega
  have hr0 := Lib.hid (hr.alloc (.cells #[.bool false, .int .i64 0] 24))
  clear hr
  go_enter Try.func52, Try.ntmps52
  go_wp2_with fail
  refine (randomValue_any _ B rb K (by omega) hr0.out).mono ?_
  rintro e w1 ⟨b, n, rfl, hr1, hg⟩
  obtain ⟨hc, hf, hz⟩ := own_step (b := w.heap.size) hg hne (by simp)
  have hlt1 := hr1.lt
  have hg0 := Lib.hid (G_more (G_alloc (World.grownBy.refl w (some rb)) _) hg)
  have hrr := Lib.hid hr1
  clear hg hr1 hr0
  go_wp2_with fail
  refine (pick_any _ B rb (K + 2) 14 (by omega) (by omega) (by omega) (hrr.out.alloc _)).mono ?_
  rintro e w2 ⟨x, rfl, hx0, hx1, _, hr2, hg2⟩
  have hrr2 := Lib.hid hr2
  have hg3 := Lib.hid (G_more (G_alloc hg0.out _) hg2)
  obtain ⟨hc2, hf2, hz2⟩ := own_step (b := w.heap.size) hg2 hne (by simp; omega)
  obtain ⟨hd2, he2, hy2⟩ := own_step (b := w1.heap.size) hg2 (by omega) (by simp)
  clear hr2 hg2
  by_cases h0 : x = 0
  · subst h0
    go_wp2_with fail
    exact bodyPost_ret (v := .agg #[.bool true, .int .i64 1]) (by simp [results, Try.results52, go_sem, hc, hz, hc2]) rfl
      ⟨true, 1, rfl, ((hrr2.out.set (by simp; omega) (by simp; omega) _).set (by simp; omega) (by simp; omega) _).mono (by omega), G_set (G_set hg3.out (by simp) _) (by simp) _⟩
  · by_cases h1 : x = 1
    · subst h1
      clear h0
      go_wp2_with fail
      have hr3 := hrr2.out.alloc (.cells #[.int .i64 10000, .int .i64 (-10000), .int .i64 9999, .int .i64 (-9999)] 3)
      refine (one_any _ B rb (K + 2 + 1) w2.heap.size 4 4 (fun i => [10000, -10000, 9999, -9999].getD i 0) (by omega) (by omega) (by omega) hr3 (by have := hrr2.out.lt; omega) (by simp) ?_).mono ?_
      · intro i hi
        match i, hi with
        | 0, _ => simp
        | 1, _ => simp
        | 2, _ => simp
        | 3, _ => simp
      rintro e w3 ⟨i, hi, rfl, hr4, hg4⟩
      have hg5 := Lib.hid (G_more (G_alloc hg3.out _) hg4)
      obtain ⟨hc3, hf3, hz3⟩ := own_step (b := w.heap.size) hg4 hne (by simp; omega)
      have hrr4 := Lib.hid hr4
      obtain ⟨y, hy⟩ : ∃ y, y = (fun i => [10000, -10000, 9999, -9999].getD i 0 : Nat → Int) i := ⟨_, rfl⟩
      rw [← hy]
      clear hy hr3 hg4 hr4
      go_wp2_with fail
      exact bodyPost_ret (v := .agg #[.bool false, .int .i64 y]) (by simp [results, Try.results52, go_sem, hc, hz, hc2, hz2, hc3]) rfl
        ⟨false, y, rfl, ((hrr4.out.set (by simp; omega) (by simp; omega) _).set (by simp; omega) (by simp; omega) _), G_set (G_set hg5.out (by simp) _) (by simp) _⟩
    · go_wp2_with fail
      exact bodyPost_ret (v := .agg #[.bool b, .int .i64 n]) (by simp [results, Try.results52, go_sem, hc, hz, hc2]) rfl
        ⟨b, n, rfl, ((hrr2.out.set (by simp; omega) (by simp; omega) _).set (by simp; omega) (by simp; omega) _).mono (by omega), G_set (G_set hg3.out (by simp) _) (by simp) _⟩

/-- The reader of a code: it makes a block of its own. -/
def NewPost (w : World) (B : Nat) (e : Ending) (w' : World) : Prop :=
  ∃ rb, e = .returned (.pointer (some ⟨rb, 0, none⟩)) ∧ Rd w' B rb 0 ∧ rb = w.heap.size ∧ Below w.heap.size w w'

theorem new_rd (w : World) (B : Nat) (hB : B ≤ w.heap.size) (A : Option Addr) (len cap : Nat) (zs : Nat → Int) (hlen : len ≤ 2000) (hz : ∀ i, 0 ≤ zs i ∧ zs i ≤ 255)
    (hc : 0 < len → ∃ cb co, A = some ⟨cb, co, none⟩ ∧ cb < B ∧ ∀ i, i < len → w.cell? ⟨cb, co + i, none⟩ = some (.int .u8 (zs i))) :
    Rd (w.alloc (.cells #[.slice A len cap, .int .i64 0] 75)) B w.heap.size 0 := by
  refine ⟨A, len, cap, 0, zs, hlen, Nat.le_refl _, by simp, hB, by simp, by simp, by simp, hz, fun hl => ?_⟩
  obtain ⟨cb, co, hA, hlt, hcell⟩ := hc hl
  refine ⟨cb, co, hA, hlt, by simp; omega, fun i hi => ?_⟩
  rw [World.cell?_alloc_lt _ _ _ (by show cb < _; omega)]
  exact hcell i hi

theorem getD_bounds {zs : List Int} (h : ∀ n ∈ zs, (Lit.int .u8 n).wf = true) (i : Nat) : 0 ≤ zs.getD i 0 ∧ zs.getD i 0 ≤ 255 := by
  by_cases hi : i < zs.length
  · have e : zs.getD i 0 = zs[i] := by simp [List.getD, hi]
    have := h (zs[i]) (List.getElem_mem hi)
    rw [e]
    simpa [Lit.wf, IntKind.min, IntKind.max, IntKind.signed, IntKind.bits] using this
  · have e : zs.getD i 0 = 0 := by simp [List.getD, hi]
    rw [e]
    omega

theorem newReader_any (w : World) (a : Option Addr) (len cap : Nat) (zs : List Int) (B : Nat) (hB : B ≤ w.heap.size) (h : IsRow .u8 w a len cap zs) (hin : ∀ x, a = some x → 0 < len → x.block < B) :
    Calls Try.prog 31 #[.slice a len cap] w (NewPost w B) := by
  rcases h with ⟨rfl, rfl, rfl, rfl⟩ | ⟨x, rfl, hl, hm, hz, hcell, hwz⟩
  · have hrd := Lib.hid (new_rd w B hB none 0 0 (fun _ => 0) (by omega) (fun _ => by omega) (fun h => absurd h (by omega)))
    go_enter Try.func31, Try.ntmps31
    go_wp2
    go_ret
    exact ⟨_, rfl, hrd.out, rfl, B_alloc (Below.refl _ _) _⟩
  · unfold maxLen at hm
    have hfacts : 0 < len → ∃ cb co, x = ⟨cb, co, none⟩ ∧ cb < B ∧ ∀ i, i < len → w.cell? ⟨cb, co + i, none⟩ = some (.int .u8 (zs.getD i 0)) := by
      intro h0
      obtain ⟨b, off, spot⟩ := x
      have hc := hcell 0 (by omega)
      have hspot : spot = none := by simpa [Addr.add] using World.cell?_spot hc
      subst hspot
      refine ⟨b, off, rfl, hin _ rfl h0, fun i hi => ?_⟩
      have := hcell i (by omega)
      by_cases hi0 : i = 0
      · subst hi0; simpa [Addr.add] using this
      · simpa [Addr.add, hi0] using this
    by_cases h2 : len ≤ 2000
    · have hrd := Lib.hid (new_rd w B hB (some x) len cap (fun i => zs.getD i 0) h2 (getD_bounds hwz) (fun h => by obtain ⟨cb, co, rfl, h1, h2⟩ := hfacts h; exact ⟨cb, co, rfl, h1, h2⟩))
      have hd : ¬ (2000 : Int) < (len : Int) := by omega
      clear hcell hfacts hwz hz
      go_enter Try.func31, Try.ntmps31
      go_wp2
      go_ret
      exact ⟨_, rfl, hrd.out, rfl, B_alloc (Below.refl _ _) _⟩
    · have hrd := Lib.hid (new_rd w B hB (some x) 2000 cap (fun i => zs.getD i 0) (by omega) (getD_bounds hwz) (fun h => by obtain ⟨cb, co, rfl, h1, h2⟩ := hfacts (by omega); exact ⟨cb, co, rfl, h1, fun i hi => h2 i (by omega)⟩))
      have hd : (2000 : Int) < (len : Int) := by omega
      have hd2 : 2000 ≤ cap := by omega
      have hd3 : (2000 : Int) ≤ (cap : Int) := by omega
      clear hcell hfacts hwz hz
      go_enter Try.func31, Try.ntmps31
      go_wp2
      go_ret
      exact ⟨_, rfl, hrd.out, rfl, B_alloc (Below.refl _ _) _⟩
end Go.Proofs.Ytfbkbppaignofaa
