/-
  Rows whose block is one of a set.
-/
import Derived.Test.YtfbkbppaignofaaLineC
namespace Go.Proofs.Ytfbkbppaignofaa
open Go.RowKit

/-- A row whose block is one of s. -/
def RowS (w : World) (s : Nat → Prop) (A : Option Addr) (n : Nat) (f : Nat → M.V) : Prop :=
  0 < n → ∃ b o, A = some ⟨b, o, none⟩ ∧ s b ∧ b < w.heap.size ∧ ∀ i, i < n → w.cell? ⟨b, o + i * 2, none⟩ = some (.bool (f i).nul) ∧ w.cell? ⟨b, o + i * 2 + 1, none⟩ = some (.int .i64 (f i).n)
section
variable {w w' : World} {s s' : Nat → Prop} {A : Option Addr} {n : Nat} {f : Nat → M.V}
theorem RowS.at_ (h : RowS w s A n f) : RowAt w w.heap.size A n f := fun hn => by
  obtain ⟨b, o, hA, _, hlt, hc⟩ := h hn
  exact ⟨b, o, hA, hlt, hc⟩
theorem RowS.put (h : RowS w s A n f) {p : Addr} (hp : ¬ s p.block) (v : Value) : RowS (w.setCell p v) s A n f := fun hn => by
  obtain ⟨b, o, hA, hs, hlt, hc⟩ := h hn
  refine ⟨b, o, hA, hs, by simpa [World.setCell] using hlt, fun i hi => ?_⟩
  rw [World.cell?_setCell_other _ _ _ _ (by intro e; rw [e] at hp; exact hp hs), World.cell?_setCell_other _ _ _ _ (by intro e; rw [e] at hp; exact hp hs)]
  exact hc i hi
theorem RowS.below (h : RowS w s A n f) (hb : Below w.heap.size w w') : RowS w' s A n f := fun hn => by
  obtain ⟨b, o, hA, hs, hlt, hc⟩ := h hn
  exact ⟨b, o, hA, hs, Nat.lt_of_lt_of_le hlt hb.size, fun i hi => ⟨(hb.cell (p := ⟨b, _, none⟩) hlt).trans (hc i hi).1, (hb.cell (p := ⟨b, _, none⟩) hlt).trans (hc i hi).2⟩⟩
theorem RowS.wide (h : RowS w s A n f) (hs : ∀ b, s b → s' b) : RowS w s' A n f := fun hn => by
  obtain ⟨b, o, hA, h1, h2⟩ := h hn
  exact ⟨b, o, hA, hs b h1, h2⟩
end
end Go.Proofs.Ytfbkbppaignofaa
