/-
  How each kind of step changes memory; how operations are read as instructions. No condition.
-/
import Derived.Test.YtimpofjjndbofaaVOrd
import Derived.Laws.NewBlocks
import Derived.Laws.StructEq
import Derived.Laws.Tables
import Derived.Laws.CopyRow
namespace Go.Proofs.Ytimpofjjndbofaa
open Go.RowKit

/-- What a new block adds to what stands still: its first n cells. -/
def Cells.with (F : Cells) (b n : Nat) : Cells := fun c o => F c o ∨ (c = b ∧ o < n)

theorem Chg.alloc {w : World} {F : Cells} (wf : ∀ b o, F b o → b < w.heap.size) (o : Obj) (n : Nat) : Chg w F noBlocks (w.alloc o) (F.with w.heap.size n) where
  os := rfl
  tape := rfl
  output := rfl
  size := by simp
  block b hb _ := heap_alloc_old w o b hb
  shape b cur U z hb := ⟨cur, by rw [heap_alloc_old w o b (Array.getElem?_eq_some_iff.1 hb).1]; exact hb, rfl⟩
  keep b k hf := ⟨.inl hf, World.cell?_alloc_old w o (a := ⟨b, k, none⟩) (by have := wf b k hf; show b ≠ _; omega)⟩
  back b k hf hb _ := by
    rcases hf with hf | ⟨rfl, _⟩
    · exact hf
    · omega
theorem Cells.with_wf {w : World} {F : Cells} (wf : ∀ b o, F b o → b < w.heap.size) (o : Obj) (n : Nat) : ∀ b k, (F.with w.heap.size n) b k → b < (w.alloc o).heap.size := by
  intro b k h
  rw [World.size_alloc]
  rcases h with h | ⟨rfl, _⟩
  · have := wf b k h; omega
  · omega
theorem Chg.alloc0 {w : World} {F : Cells} (wf : ∀ b o, F b o → b < w.heap.size) (o : Obj) : Chg w F noBlocks (w.alloc o) F where
  os := rfl
  tape := rfl
  output := rfl
  size := by simp
  block b hb _ := heap_alloc_old w o b hb
  shape b cur U z hb := ⟨cur, by rw [heap_alloc_old w o b (Array.getElem?_eq_some_iff.1 hb).1]; exact hb, rfl⟩
  keep b k hf := ⟨hf, World.cell?_alloc_old w o (a := ⟨b, k, none⟩) (by have := wf b k hf; show b ≠ _; omega)⟩
  back b k hf hb _ := hf
theorem wf_alloc {w : World} {F : Cells} (wf : ∀ b o, F b o → b < w.heap.size) (o : Obj) : ∀ b k, F b k → b < (w.alloc o).heap.size := by
  intro b k h
  rw [World.size_alloc]
  have := wf b k h; omega

/-- A row of one's own is written on behind what stands still, of which it may become part. -/
theorem Chg.setRow {w : World} {F : Cells} (b : Nat) (old new : Array Value) (T : TypeId) (hb : w.heap[b]? = some (.cells old T (0, 0))) (hsz : new.size = old.size) (n : Nat) (hsame : ∀ o, F b o → new[o]? = old[o]?) :
    Chg w F (fun k => k = b) (w.setRow b new) (F.with b n) where
  os := rfl
  tape := rfl
  output := rfl
  size := by simp
  block c _ hn := setRow_other w b c new hn
  shape c cur U z hc := by
    by_cases e : c = b
    · subst e
      rw [hb] at hc
      obtain ⟨rfl, rfl, rfl⟩ : old = cur ∧ T = U ∧ (0, 0) = z := by injection hc with hc; injection hc with h1 h2 h3; exact ⟨h1, h2, h3⟩
      exact ⟨new, setRow_heap w c old new T (0, 0) hb, hsz⟩
    · exact ⟨cur, by rw [setRow_other w b c new e]; exact hc, rfl⟩
  keep c o hf := by
    refine ⟨.inl hf, ?_⟩
    by_cases e : c = b
    · subst e
      rw [cell_setRow_same w c o old new T (0, 0) hb, cell_of_row w c o old T (0, 0) hb]
      exact hsame o hf
    · exact cell_setRow_other w b new ⟨c, o, none⟩ e
  back c o hf _ hn := by
    rcases hf with hf | ⟨rfl, _⟩
    · exact hf
    · exact absurd rfl hn

theorem wf_setRow {w : World} {F : Cells} (wf : ∀ b o, F b o → b < w.heap.size) (b : Nat) (new : Array Value) (hb : b < w.heap.size) (n : Nat) : ∀ c k, (F.with b n) c k → c < (w.setRow b new).heap.size := by
  intro c k h
  rw [setRow_size]
  rcases h with h | ⟨rfl, _⟩
  · exact wf c k h
  · exact hb

theorem Chg.setRow0 {w : World} {F : Cells} (b : Nat) (old new : Array Value) (T : TypeId) (hb : w.heap[b]? = some (.cells old T (0, 0))) (hsz : new.size = old.size) (hno : ∀ o, ¬ F b o) :
    Chg w F (fun k => k = b) (w.setRow b new) F where
  os := rfl
  tape := rfl
  output := rfl
  size := by simp
  block c _ hn := setRow_other w b c new hn
  shape c cur U z hc := by
    by_cases e : c = b
    · subst e
      rw [hb] at hc
      obtain ⟨rfl, rfl, rfl⟩ : old = cur ∧ T = U ∧ (0, 0) = z := by injection hc with hc; injection hc with h1 h2 h3; exact ⟨h1, h2, h3⟩
      exact ⟨new, setRow_heap w c old new T (0, 0) hb, hsz⟩
    · exact ⟨cur, by rw [setRow_other w b c new e]; exact hc, rfl⟩
  keep c o hf := by
    refine ⟨hf, ?_⟩
    by_cases e : c = b
    · subst e; exact absurd hf (hno o)
    · exact cell_setRow_other w b new ⟨c, o, none⟩ e
  back c o hf _ _ := hf


end Go.Proofs.Ytimpofjjndbofaa
