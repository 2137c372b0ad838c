/-
  What all rows are proved with.
-/
import Derived.WalkKit
import Derived.ProofKit
import Derived.OpenShut
import Derived.ShutString
import Derived.ChangeOld
import Derived.Below
import Derived.Lib.SmallJoins
import Derived.JoinedOf
import Derived.KernelRfl
import Derived.Test.YtclkehekhdfnnaaRows
namespace Go.Proofs.Ytclkehekhdfnnaa
open Go.ChangeShapes Go.WideShapes Go.ChangeAt Go.RowKit Go.Joins
open Go.ChangeMaps (open_string shut_string)
theorem own : ownKnob Try.prog.godebug = none:=by kernel_rfl
theorem laidOut : laidOutB Try.prog = true:=by kernel_rfl
end Go.Proofs.Ytclkehekhdfnnaa
namespace Go.Proofs.Ytclkehekhdfnnaa.Facts
open Go
theorem p24 : Try.prog.mayEnter = true:=by kernel_rfl
end Go.Proofs.Ytclkehekhdfnnaa.Facts
namespace Go.Proofs.Ytclkehekhdfnnaa.Facts
open Go
theorem p24b : (false == Try.prog.liftsFinal) = true:=by kernel_rfl
end Go.Proofs.Ytclkehekhdfnnaa.Facts
namespace Go.Proofs.Ytclkehekhdfnnaa.Facts
open Go
theorem p24c : (Try.prog.make == some .cut) = true:=by kernel_rfl
end Go.Proofs.Ytclkehekhdfnnaa.Facts
