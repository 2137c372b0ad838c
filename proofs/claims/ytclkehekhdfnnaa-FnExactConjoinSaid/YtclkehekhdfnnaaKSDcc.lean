/-
  Functions of the program read as code on plain data. Closed facts of the program alone.
-/
import Derived.KernelRfl
import Derived.Test.YtclkehekhdfnnaaRows
import Derived.Test.YtclkehekhdfnnaaJSVLib
import Derived.Test.YtclkehekhdfnnaaKSVGi
namespace Go.Proofs.Ytclkehekhdfnnaa
open Go.RowKit
noncomputable section
def r_Z3_0 : List GI:=[gi 1 (.box 1 2000001 (.t 0) (some 2)),gi 2 (.alloc 2 2000002 [I 0,I 0,.v (.bool false),I 0,.nul])]
def r_Z3_1 : List GI:=[gs 3 1 2,gi 4 (.build 4 [I 0,I 0,.v (.bool false),I 0,.nul] [(0,(none,.k (I 2))),(2,(some 2,.t 3))]),g0 (.sto 2 (.t 4) (some 5))]
def dc_Z3 : DC:=.seq (.z r_Z3_0) (.seq (.z r_Z3_1) .ret)
theorem c_Z3 : cfun Try.prog [] 38 = some (5,dc_Z3,[(Res.cell 2 (some 5))]):=by kernel_rfl
end
end Go.Proofs.Ytclkehekhdfnnaa
