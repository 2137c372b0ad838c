/-
  The walks of the laws' functions that copy an expression.
-/
import Derived.Test.YtfbkbppaignofaaTree
import Derived.Laws.MakeOwn
namespace Go.Proofs.Ytfbkbppaignofaa
open Go.RowKit

namespace ET
theorem At.lt {w : World} {s : Nat → Prop} : ∀ (t : ET) (A : Option Addr), t.At w s A → t.At w (fun b => s b ∧ b < w.heap.size) A
  | .mk _ _ _ _ m kid, A, h => by
    rw [At] at h ⊢
    intro hm
    obtain ⟨b, o, hA, hb, hx⟩ := h hm
    obtain ⟨_, _, h0, _⟩ := hx 0 hm
    refine ⟨b, o, hA, ⟨hb, World.block_lt_of_cell? w ⟨b, _, none⟩ h0⟩, fun i hi => ?_⟩
    obtain ⟨A', c', h0, h1, h2, h3, h4, h5⟩ := hx i hi
    exact ⟨A', c', h0, h1, h2, h3, h4, At.lt (kid i) A' h5⟩
  | .no, _, _ => trivial
theorem At.isOn {w : World} {s : Nat → Prop} {t : ET} {A : Option Addr} (h : t.At w s A) : On w t A := (At.lt t A h).wide (fun _ h => h.2)

/-- A block of one's own for m expressions, the first k of which are kids. -/
def FillE (w : World) (g m k : Nat) (kid : Nat → ET) : Prop :=
  ∃ cs : Array Value, w.heap[g]? = some (.cells cs 27 (0, 0)) ∧ cs.size = m * 5 ∧
    ∀ i, i < k → ∃ A' c', cs[i * 5]? = some (.int .i64 (kid i).k) ∧ cs[i * 5 + 1]? = some (.int .i64 (kid i).c) ∧ cs[i * 5 + 2]? = some (.bool (kid i).b) ∧ cs[i * 5 + 3]? = some (.int .i64 (kid i).n) ∧ cs[i * 5 + 4]? = some (.slice A' (kid i).m c') ∧ (kid i).At w (g < ·) A'

theorem FillE.lt {w : World} {g m k : Nat} {kid : Nat → ET} (h : FillE w g m k kid) : g < w.heap.size := by
  obtain ⟨cs, hg, _⟩ := h
  exact (Array.getElem?_eq_some_iff.1 hg).1
theorem FillE.cell {w : World} {g m k : Nat} {kid : Nat → ET} (h : FillE w g m k kid) (j d : Nat) (hj : j < m) (hd : d < 5) : (∃ v, w.cell? ⟨g, j * 5 + d, none⟩ = some v) ∧ w.frozen? ⟨g, j * 5 + d, none⟩ = false := by
  obtain ⟨cs, hg, hs, _⟩ := h
  exact ⟨⟨_, (cell_of_row w g _ cs _ _ hg).trans (Array.getElem?_eq_getElem (by omega))⟩, by simp [World.frozen?, hg]⟩
theorem FillE.below {w w' : World} {g m k : Nat} {kid : Nat → ET} (h : FillE w g m k kid) (hb : Below w.heap.size w w') : FillE w' g m k kid := by
  have hlt := h.lt
  obtain ⟨cs, hg, hs, hc⟩ := h
  refine ⟨cs, (hb.block g hlt).trans hg, hs, fun i hi => ?_⟩
  obtain ⟨A', c', h0, h1, h2, h3, h4, h5⟩ := hc i hi
  exact ⟨A', c', h0, h1, h2, h3, h4, h5.more hb (fun _ h => h)⟩

theorem FillE.put {w : World} {g m k : Nat} {kid : Nat → ET} (h : FillE w g m k kid) (hk : k < m) {A : Option Addr} {cp : Nat} (hr : (kid k).At w (g < ·) A) {x0 x1 x2 x3 x4 : Value}
    (e0 : x0 = .int .i64 (kid k).k) (e1 : x1 = .int .i64 (kid k).c) (e2 : x2 = .bool (kid k).b) (e3 : x3 = .int .i64 (kid k).n) (e4 : x4 = .slice A (kid k).m cp) :
    FillE (((((w.setCell ⟨g, k * 5, none⟩ x0).setCell ⟨g, k * 5 + 1, none⟩ x1).setCell ⟨g, k * 5 + 2, none⟩ x2).setCell ⟨g, k * 5 + 3, none⟩ x3).setCell ⟨g, k * 5 + 4, none⟩ x4) g m (k + 1) kid := by
  obtain ⟨cs, hg, hs, hc⟩ := h
  subst e0 e1 e2 e3 e4
  refine ⟨((((cs.setIfInBounds (k * 5) (.int .i64 (kid k).k)).setIfInBounds (k * 5 + 1) (.int .i64 (kid k).c)).setIfInBounds (k * 5 + 2) (.bool (kid k).b)).setIfInBounds (k * 5 + 3) (.int .i64 (kid k).n)).setIfInBounds (k * 5 + 4) (.slice A (kid k).m cp), ?_, by simp [hs], fun i hi => ?_⟩
  · simp [World.setCell, Array.getElem?_modify, hg]
  · by_cases hik : i = k
    · subst hik
      refine ⟨A, cp, ?_, ?_, ?_, ?_, ?_, ((((hr.put (by simp) _).put (by simp) _).put (by simp) _).put (by simp) _).put (by simp) _⟩
      · rw [Array.getElem?_setIfInBounds_ne (by omega), Array.getElem?_setIfInBounds_ne (by omega), Array.getElem?_setIfInBounds_ne (by omega), Array.getElem?_setIfInBounds_ne (by omega), Array.getElem?_setIfInBounds_self_of_lt (by omega)]
      · rw [Array.getElem?_setIfInBounds_ne (by omega), Array.getElem?_setIfInBounds_ne (by omega), Array.getElem?_setIfInBounds_ne (by omega), Array.getElem?_setIfInBounds_self_of_lt (by simp; omega)]
      · rw [Array.getElem?_setIfInBounds_ne (by omega), Array.getElem?_setIfInBounds_ne (by omega), Array.getElem?_setIfInBounds_self_of_lt (by simp; omega)]
      · rw [Array.getElem?_setIfInBounds_ne (by omega), Array.getElem?_setIfInBounds_self_of_lt (by simp; omega)]
      · rw [Array.getElem?_setIfInBounds_self_of_lt (by simp; omega)]
    · obtain ⟨A', c', h0, h1, h2, h3, h4, h5⟩ := hc i (by omega)
      refine ⟨A', c', ?_, ?_, ?_, ?_, ?_, ((((h5.put (by simp) _).put (by simp) _).put (by simp) _).put (by simp) _).put (by simp) _⟩
      all_goals rw [Array.getElem?_setIfInBounds_ne (by omega), Array.getElem?_setIfInBounds_ne (by omega), Array.getElem?_setIfInBounds_ne (by omega), Array.getElem?_setIfInBounds_ne (by omega), Array.getElem?_setIfInBounds_ne (by omega)]
      all_goals assumption

theorem FillE.kids {w : World} {g m : Nat} {kid : Nat → ET} (h : FillE w g m m kid) : KidsAt w (g ≤ ·) m kid (some ⟨g, 0, none⟩) := by
  obtain ⟨cs, hg, hs, hc⟩ := h
  refine fun _ => ⟨g, 0, rfl, Nat.le_refl _, fun i hi => ?_⟩
  obtain ⟨A', c', h0, h1, h2, h3, h4, h5⟩ := hc i hi
  rw [Nat.zero_add]
  exact ⟨A', c', (cell_of_row w g _ cs _ _ hg).trans h0, (cell_of_row w g _ cs _ _ hg).trans h1, (cell_of_row w g _ cs _ _ hg).trans h2, (cell_of_row w g _ cs _ _ hg).trans h3, (cell_of_row w g _ cs _ _ hg).trans h4, h5.wide (fun _ h => Nat.le_of_lt h)⟩

/-- A copy, new from block B on. -/
def ToE (w : World) (t : ET) (e : Ending) (w' : World) : Prop := ∃ A, e = .returned (t.val A t.m) ∧ t.At w' (w.heap.size ≤ ·) A ∧ Below w.heap.size w w'
def ToES (w : World) (m : Nat) (kid : Nat → ET) (e : Ending) (w' : World) : Prop := ∃ A, e = .returned (.slice A m m) ∧ KidsAt w' (w.heap.size ≤ ·) m kid A ∧ Below w.heap.size w w'

def ToOK (t : ET) : Prop := ∀ (w : World) (A : Option Addr) (cp : Nat), On w t A → t.Most 1048576 → Calls Try.prog 23 #[t.val A cp] w (ToE w t)

theorem infoE : (Try.prog.info? 27).map (fun i => (i.zero, i.size, i.bytes)) = some (some (.agg #[.int .i64 0, .int .i64 0, .bool false, .int .i64 0, .slice none 0 0]), 5, 56) := by kernel_rfl

theorem toExprS_any (m : Nat) (kid : Nat → ET) (IH : ∀ i, i < m → (kid i).ToOK) (w : World) (A : Option Addr) (cp : Nat) (hA : KOn w m kid A) (hM : ∀ i, i < m → (kid i).Most 1048576) (hm : m ≤ 1048576) :
    Calls Try.prog 46 #[.slice A m cp] w (ToES w m kid) := by
  obtain ⟨i0, hi0, hz0, hz1, hz2⟩ := info_parts infoE
  have H1 := Lib.hid hA
  have HI := Lib.hid IH
  have HM := Lib.hid hM
  clear hA IH hM
  have hmk := fun (w : World) => run_make (P := Try.prog) w 25 27 i0 _ Try.underlying25 hi0 hz0 .i64 .i64 (m : Int) (m : Int) (by omega) (Int.le_refl _) (by rw [hz2]; omega) (by omega)
  simp only [Int.toNat_natCast, hz1] at hmk
  have HF0 := Lib.hid (show FillE (w.alloc (.cells (madeCells (Value.agg #[.int .i64 0, .int .i64 0, .bool false, .int .i64 0, .slice none 0 0]).cells (m * 5)) 27)) w.heap.size m 0 kid from
    ⟨_, heap_alloc_new w _, by rw [size_madeCells], fun i hi => absurd hi (by omega)⟩)
  clear hz1 hz2 hz0 hi0
  go_enter Try.func46, Try.ntmps46
  go_wp2_with fail
  obtain ⟨g, hg⟩ : ∃ g, g = w.heap.size := ⟨_, rfl⟩
  have hB0 := Lib.hid (B_alloc (Below.refl w.heap.size w) (.cells (madeCells (Value.agg #[.int .i64 0, .int .i64 0, .bool false, .int .i64 0, .slice none 0 0]).cells (m * 5)) 27))
  have HG := Lib.hid hg
  rw [← hg] at HF0
  rw [← hg]
  clear hg hmk
  go_loopw [4] (fun i wr => ∃ k : Nat, k ≤ m ∧ i = .int .i64 k ∧ FillE wr g m k kid ∧ Below w.heap.size w wr) (fun i _ => m - (intOf i).toNat)
  case atStart => exact ⟨0, by omega, rfl, by simpa [Value.cells] using HF0.out, by simpa [Value.cells] using hB0.out⟩
  case round =>
    obtain ⟨k, hk, rfl, hF, hB⟩ := hrel
    clear HF0 hB0
    by_cases hlt : k < m
    · obtain ⟨b, o, rfl, hb, hc⟩ := (H1.out.on hB) (by omega)
      obtain ⟨A', c', g0, g1, g2, g3, g4, g5⟩ := hc k hlt
      have cc := Lib.hid (HI.out k hlt wr A' c' g5 (HM.out k hlt))
      have hF' := Lib.hid hF
      have HB := Lib.hid hB
      have hk0 : (0 : Int) ≤ (k : Int) := by omega
      have hk1 : (k : Int) < (m : Int) := by omega
      clear hF hB hc g5
      go_wp2_with fail
      refine cc.out.mono ?_; rintro e w1 ⟨A1, rfl, hT, hb1⟩
      have HS := Lib.hid (B_more HB.out hb1)
      have hF2 := Lib.hid (hF'.out.below hb1)
      have HT := Lib.hid (hT.wide (s' := (g < ·)) (fun b hb => Nat.lt_of_lt_of_le hF'.out.lt hb))
      obtain ⟨⟨v0, y0⟩, z0⟩ := hF2.out.cell k 0 hlt (by omega)
      obtain ⟨⟨v1, y1⟩, z1⟩ := hF2.out.cell k 1 hlt (by omega)
      obtain ⟨⟨v2, y2⟩, z2⟩ := hF2.out.cell k 2 hlt (by omega)
      obtain ⟨⟨v3, y3⟩, z3⟩ := hF2.out.cell k 3 hlt (by omega)
      obtain ⟨⟨v4, y4⟩, z4⟩ := hF2.out.cell k 4 hlt (by omega)
      rw [Nat.add_zero] at y0 z0
      have HFN := Lib.hid (hF2.out.put hlt (cp := (kid k).m) HT.out rfl rfl rfl rfl rfl)
      have HSN := Lib.hid (B_set (B_set (B_set (B_set (B_set HS.out (p := ⟨g, k * 5, none⟩) (Nat.le_of_eq HG.out.symm) (.int .i64 (kid k).k)) (p := ⟨g, k * 5 + 1, none⟩) (Nat.le_of_eq HG.out.symm) (.int .i64 (kid k).c)) (p := ⟨g, k * 5 + 2, none⟩) (Nat.le_of_eq HG.out.symm) (.bool (kid k).b)) (p := ⟨g, k * 5 + 3, none⟩) (Nat.le_of_eq HG.out.symm) (.int .i64 (kid k).n)) (p := ⟨g, k * 5 + 4, none⟩) (Nat.le_of_eq HG.out.symm) (.slice A1 (kid k).m (kid k).m))
      clear hb1 hT
      unfold ET.val
      go_wp2_with fail
      refine ⟨?_, by simp [intOf]; omega⟩
      first
        | exact ⟨k + 1, by omega, by go_num, HFN.out, HSN.out⟩
        | ((repeat apply Exists.intro); exact ⟨⟨k + 1, by omega, by go_num, HFN.out, HSN.out⟩, rfl⟩)
    · obtain rfl : k = m := by omega
      have HH := Lib.hid (show ToES w k kid (.returned (.slice (some ⟨g, 0, none⟩) k k)) wr from ⟨_, rfl, by rw [← HG.out]; exact hF.kids, hB⟩)
      clear hF hB
      go_wp2_with fail
      go_ret
      exact HH.out
end ET
end Go.Proofs.Ytfbkbppaignofaa
