/-
  The closed facts of the program alone, each by itself; and how a row's facts are joined.
-/
import Derived.Test.YtedmegmhjmabcaaFactsA
import Derived.Test.YtedmegmhjmabcaaFactsB
import Derived.Test.YtedmegmhjmabcaaFactsC
namespace Go.Proofs.Ytedmegmhjmabcaa.Facts
open Go

theorem and2 {a b : Bool} (h : a = true) (k : b = true) : (a && b) = true := by rw [h, k]; rfl
theorem p2 : laidOutB Try.prog = true := by kernel_rfl
theorem p3 : mapsRowed Try.prog = true := by kernel_rfl
theorem p7 : (Try.prog.stops == []) = true := by kernel_rfl
theorem p9 : (Try.prog.stopKnobs == []) = true := by kernel_rfl
theorem p22 : (true == Try.prog.plainKeys) = true := by kernel_rfl
theorem p23b : Try.prog.stopsHeard = true := by kernel_rfl
end Go.Proofs.Ytedmegmhjmabcaa.Facts
