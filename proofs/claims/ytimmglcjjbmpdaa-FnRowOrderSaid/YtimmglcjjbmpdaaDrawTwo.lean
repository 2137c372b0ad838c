/-
  The walks of the functions that draw two values.
-/
import Derived.Test.YtimmglcjjbmpdaaDraw
import Derived.Deep.RegionWith
namespace Go.Proofs.Ytimmglcjjbmpdaa
open Go.RowKit

theorem IsRow.lt {k : IntKind} {w : World} {a : Option Addr} {len cap : Nat} {zs : List Int} (h : IsRow k w a len cap zs) : ∀ x, a = some x → 0 < len → x.block < w.heap.size := by
  intro x hx h0
  rcases h with ⟨_, rfl, _⟩ | ⟨y, hy, hl, hm, hz, hcell, _⟩
  · omega
  · rw [hy] at hx
    injection hx with hx
    subst hx
    have hc := hcell 0 (by omega)
    exact World.block_lt_of_cell? w y (by simpa [Addr.add] using hc)

theorem IsRow.below {k : IntKind} {w w' : World} {a : Option Addr} {len cap : Nat} {zs : List Int} (h : IsRow k w a len cap zs) (hb : Below w.heap.size w w') : IsRow k w' a len cap zs := by
  rcases h with h | ⟨y, hy, hl, hm, hz, hcell, hw⟩
  · exact .inl h
  · refine .inr ⟨y, hy, hl, hm, hz, fun i hi => ?_, hw⟩
    have h1 := hcell i hi
    exact (hb.cell (World.block_lt_of_cell? w _ h1)).trans h1

def TwoPost (w : World) (e : Ending) (w' : World) : Prop :=
  ∃ b n c m, e = .returned (.tuple #[.agg #[.bool b, .int .i64 n], .agg #[.bool c, .int .i64 m]]) ∧ Below w.heap.size w w'

theorem below_of_grown {w x y : World} {rb : Nat} (h : Below w.heap.size w x) (hr : w.heap.size ≤ rb) (k : x.grownBy y (some rb)) : Below w.heap.size w y :=
  h.trans ⟨k.os, k.tape, k.output, k.size, fun i hi => k.block i (by have := h.size; omega) (by intro e; injection e with e; omega)⟩

theorem twoValues_any (w : World) (a : Option Addr) (len cap : Nat) (zs : List Int) (h : IsRow .u8 w a len cap zs) :
    Calls Try.prog 54 #[.slice a len cap] w (TwoPost w) := by
  have hin := Lib.hid (fun (o1 o2 : Obj) => h.below (B_alloc (B_alloc (Below.refl _ _) o1) o2))
  have hlt := Lib.hid h.lt
  clear h
  go_enter Try.func54, Try.ntmps54
  go_wp2_with fail
  refine (newReader_any _ a len cap zs w.heap.size (by simp; omega) (hin.out _ _) hlt.out).mono ?_
  rintro e w1 ⟨rb, rfl, hr1, hrb, hb1⟩
  have hrb' : w.heap.size + 2 = rb := by rw [hrb]; simp
  have hB1 := Lib.hid (B_more (B_alloc (B_alloc (Below.refl w.heap.size w) _) _) hb1)
  obtain ⟨hc1, hf1, hz1⟩ := stand (B := w.heap.size + 2) (hb1.mono (by simp)) (by simp)
  have h1 : w.heap.size ≠ rb := by omega
  have h2 : w.heap.size + 1 ≠ rb := by omega
  have h3 : w.heap.size ≤ rb := by omega
  clear hrb hb1 hin
  have hrr1 := Lib.hid hr1
  clear hr1 hrb'
  go_wp2_with fail
  refine (anyValue_any _ w.heap.size rb 0 (by omega) hrr1.out).mono ?_
  rintro e w2 ⟨b, n, rfl, hr2, hg2⟩
  obtain ⟨hc2, hf2, hz2⟩ := own_step (b := w.heap.size) hg2 h1 (by omega)
  obtain ⟨hd2, he2, hy2⟩ := own_step (b := w.heap.size + 1) hg2 h2 (by omega)
  have hB2 := Lib.hid (below_of_grown hB1.out h3 hg2)
  have hrr2 := Lib.hid hr2
  have hlt2 := hr2.lt
  clear hr2 hg2 hrr1 hB1
  go_wp2_with fail
  go_region_with (go_at_call 90; refine (anyValue_any _ w.heap.size rb 4 (by omega) ((hrr2.out.alloc _).drew)).mono ?_; rintro e w3 ⟨c, m, rfl, hr3, hg3⟩; obtain ⟨hc3, hf3, hz3⟩ := own_step (b := w.heap.size) hg3 h1 (by simp; omega); obtain ⟨hd3, he3, hy3⟩ := own_step (b := w.heap.size + 1) hg3 h2 (by simp; omega); obtain ⟨hk3, hl3, hx3⟩ := own_step (b := w2.heap.size) hg3 (by omega) (by simp); have hB3 := Lib.hid (below_of_grown (B_alloc hB2.out _).drew h3 hg3))
  all_goals go_wp2_with fail
  all_goals refine bodyPost_ret (v := .tuple #[.agg #[.bool b, .int .i64 n], .agg #[.bool c, .int .i64 m]]) (by simp [results, Try.results54, go_sem, hc3, hd3, hc2, hd2, hc1, hz2, hy2]) rfl ⟨b, n, c, m, rfl, ?_⟩
  all_goals repeat (first | exact hB3.out | refine B_set ?_ (by simp) _)

theorem DrawCompareValues_any (w : World) (a : Option Addr) (len cap : Nat) (zs : List Int) (h : IsRow .u8 w a len cap zs) :
    Calls Try.prog 17 #[.slice a len cap] w (TwoPost w) := by
  have hin := Lib.hid (fun (o1 o2 : Obj) => h.below (B_alloc (B_alloc (Below.refl _ _) o1) o2))
  clear h
  go_enter Try.func17, Try.ntmps17
  go_wp2_with fail
  refine (twoValues_any _ a len cap zs (hin.out _ _)).mono ?_
  rintro e w1 ⟨b, n, c, m, rfl, hb1⟩
  have hB1 := Lib.hid (B_more (B_alloc (B_alloc (Below.refl w.heap.size w) _) _) hb1)
  obtain ⟨hc1, hf1, hz1⟩ := stand (B := w.heap.size + 2) (hb1.mono (by simp)) (by simp)
  clear hb1 hin
  go_wp2_with fail
  refine bodyPost_ret (v := .tuple #[.agg #[.bool b, .int .i64 n], .agg #[.bool c, .int .i64 m]]) (by simp [results, Try.results17, go_sem, hc1]) rfl ⟨b, n, c, m, rfl, ?_⟩
  repeat (first | exact hB1.out | refine B_set ?_ (by simp) _)
end Go.Proofs.Ytimmglcjjbmpdaa
