/-
  A number that comes in.
-/
import Derived.JoinedOf
import Derived.KernelRfl
import Derived.Test.YtmdijgcaffpgiaaJVGate
import Derived.Test.YtmdijgcaffpgiaaRows
namespace Go.Proofs.Ytmdijgcaffpgiaa
open Go.ChangeShapes Go.WideShapes Go.ChangeAt Go.RowKit Go.Joins
open Go.ChangeMaps (open_string shut_string)

section
variable {H : Type} {enc : TypeId × Value → H} {W : World} {base b0 : Nat} {spare : Nat → Bool} {held : Bool} {r : Reach} {v : Value} {d : DataW H} {p : List MemPlace}

set_option maxRecDepth 100000 in
theorem open_Int (hv : Value.okWide Try.prog W r b0 3 v) (h : DataW.Trod enc Try.prog W base spare held 3 v d p) : ∃ n, v = .int .i64 n ∧ (Lit.int .i64 n).wf = true := by
  obtain ⟨a, e1, _, _, wa⟩ := open_int Try.underlying3 hv h
  exact ⟨a, e1, wa⟩

end
end Go.Proofs.Ytmdijgcaffpgiaa
namespace Go.Proofs.Ytmdijgcaffpgiaa.Facts
open Go
theorem p24 : Try.prog.mayEnter = true := by kernel_rfl
end Go.Proofs.Ytmdijgcaffpgiaa.Facts
namespace Go.Proofs.Ytmdijgcaffpgiaa.Facts
open Go
theorem p24b : (false == Try.prog.liftsFinal) = true := by kernel_rfl
end Go.Proofs.Ytmdijgcaffpgiaa.Facts
namespace Go.Proofs.Ytmdijgcaffpgiaa.Facts
open Go
theorem p24c : (Try.prog.make == some .cut) = true := by kernel_rfl
end Go.Proofs.Ytmdijgcaffpgiaa.Facts
namespace Go.Proofs.Ytmdijgcaffpgiaa.Facts
open Go

theorem and2 {a b : Bool} (h : a = true) (k : b = true) : (a && b) = true := by rw [h, k]; rfl
theorem p2 : laidOutB Try.prog = true := by kernel_rfl
theorem p3 : mapsRowed Try.prog = true := by kernel_rfl
theorem p7 : (Try.prog.stops == []) = true := by kernel_rfl
theorem p9 : (Try.prog.stopKnobs == []) = true := by kernel_rfl
theorem p22 : (true == Try.prog.plainKeys) = true := by kernel_rfl
theorem p23b : Try.prog.stopsHeard = true := by kernel_rfl
end Go.Proofs.Ytmdijgcaffpgiaa.Facts
