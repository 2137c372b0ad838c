/-
  What all rows are proved with.
-/
import Derived.WalkKit
import Derived.ProofKit
import Derived.OpenShut
import Derived.ShutString
import Derived.ChangeOld
import Derived.Below
import Derived.Lib.SmallJoins
import Derived.JoinedOf
import Derived.KernelRfl
import Derived.Test.YtgpdmgaemhelgaaGreatRows
namespace Go.Proofs.YtgpdmgaemhelgaaGreat
open Go.ChangeShapes Go.WideShapes Go.ChangeAt Go.RowKit Go.Joins
open Go.ChangeMaps (open_string shut_string)
theorem own : ownKnob Tryz.prog.godebug = none:=by kernel_rfl
theorem laidOut : laidOutB Tryz.prog = true:=by kernel_rfl
end Go.Proofs.YtgpdmgaemhelgaaGreat
namespace Go.Proofs.YtgpdmgaemhelgaaGreat.Facts
open Go
theorem p24 : Tryz.prog.mayEnter = true:=by kernel_rfl
end Go.Proofs.YtgpdmgaemhelgaaGreat.Facts
namespace Go.Proofs.YtgpdmgaemhelgaaGreat.Facts
open Go
theorem p24b : (false == Tryz.prog.liftsFinal) = true:=by kernel_rfl
end Go.Proofs.YtgpdmgaemhelgaaGreat.Facts
namespace Go.Proofs.YtgpdmgaemhelgaaGreat.Facts
open Go
theorem p24c : (Tryz.prog.make == some .cut) = true:=by kernel_rfl
end Go.Proofs.YtgpdmgaemhelgaaGreat.Facts
