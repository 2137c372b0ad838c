/-
  Functions of the program read as code on plain data. Closed facts of the program alone.
-/
import Derived.Test.YtikbhimnniapdaaRows
import Derived.Test.YtikbhimnniapdaaVLib
import Derived.KernelRfl
namespace Go.Proofs.Ytikbhimnniapdaa
open Go.RowKit
noncomputable section
def r_spec_number_0 : List GI := [(GI.mk (In.alloc 2 2000002 [(D.v (Value.bool false)), (D.v (Value.int IntKind.i64 0))]) (some 2) none false)]
def r_spec_number_1 : List GI := [(GI.mk (In.mov 3 (Opd.t 0)) (some 3) none false), (GI.mk (In.call 4 26 [(Opd.t 3), (Opd.k (D.v (Value.int IntKind.i64 (-9999)))), (Opd.k (D.v (Value.int IntKind.i64 9999)))]) (some 4) none true), (GI.mk (In.un 5 UnOp.not (Opd.t 4)) (some 5) none false)]
def r_spec_number_2 : List GI := [(GI.mk (In.build 6 [(D.v (Value.bool false)), (D.v (Value.int IntKind.i64 0))] [(0, (none, (Opd.k (D.v (Value.bool true)))))]) (some 6) none false), (GI.mk (In.sto 2 (Opd.t 6) (some 2)) none none false)]
def r_spec_number_3 : List GI := [(GI.mk (In.mov 7 (Opd.t 0)) (some 7) none false), (GI.mk (In.build 8 [(D.v (Value.bool false)), (D.v (Value.int IntKind.i64 0))] [(1, (none, (Opd.t 7)))]) (some 8) none false), (GI.mk (In.sto 2 (Opd.t 8) (some 2)) none none false)]
def dc_spec_number : DC := (DC.seq (DC.reg r_spec_number_0 none) (DC.seq (DC.seq (DC.reg r_spec_number_1 none) (DC.cond (Opd.t 5) (DC.seq (DC.reg r_spec_number_2 none) DC.ret) DC.skip)) (DC.seq (DC.reg r_spec_number_3 none) DC.ret)))
theorem c_spec_number : cfun Try.prog [] 32 = some (9, dc_spec_number, [(Res.cell 2 (some 2))]) := by kernel_rfl
end
end Go.Proofs.Ytikbhimnniapdaa
