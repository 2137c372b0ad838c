/-
  Functions of the program read as code on plain data. Closed facts of the program alone.
-/
import Derived.Test.YtbdpdmojepiepaaRows
import Derived.Test.YtbdpdmojepiepaaVLib
import Derived.KernelRfl
namespace Go.Proofs.Ytbdpdmojepiepaa
open Go.RowKit
noncomputable section
def r_spec_truth_0 : List GI := [(GI.mk (In.box 1 2000001 (Opd.t 0) (some 2)) (some 1) none false), (GI.mk (In.mov 2 (Opd.k (D.v (Value.int IntKind.i64 0)))) (some 2) none false)]
def r_spec_truth_1 : List GI := [(GI.mk (In.fad 4 1 0) (some 4) none false), (GI.mk (In.lod 5 4 none) (some 5) none false), (GI.mk (In.mov 3 (Opd.t 5)) (some 3) none false)]
def r_spec_truth_2 : List GI := [(GI.mk (In.mov 2 (Opd.k (D.v (Value.int IntKind.i64 2)))) (some 2) none false)]
def r_spec_truth_3 : List GI := [(GI.mk (In.fad 7 1 1) (some 7) none false), (GI.mk (In.lod 8 7 none) (some 8) none false), (GI.mk (In.bin 9 BinOp.eql (Opd.t 8) (Opd.k (D.v (Value.int IntKind.i64 0)))) (some 9) none false), (GI.mk (In.mov 6 (Opd.t 9)) (some 6) none false)]
def r_spec_truth_4 : List GI := [(GI.mk (In.mov 2 (Opd.k (D.v (Value.int IntKind.i64 0)))) (some 2) none false)]
def r_spec_truth_5 : List GI := [(GI.mk (In.mov 2 (Opd.k (D.v (Value.int IntKind.i64 1)))) (some 2) none false)]
def dc_spec_truth : DC := (DC.seq (DC.reg r_spec_truth_0 none) (DC.seq (DC.block 0 (DC.seq (DC.reg r_spec_truth_1 none) (DC.cond (Opd.t 3) (DC.seq (DC.reg r_spec_truth_2 none) DC.ret) (DC.seq (DC.reg r_spec_truth_3 none) (DC.cond (Opd.t 6) (DC.seq (DC.reg r_spec_truth_4 none) DC.ret) DC.skip))))) (DC.seq (DC.reg r_spec_truth_5 none) DC.ret)))
theorem c_spec_truth : cfun Try.prog [] 77 = some (10, dc_spec_truth, [(Res.tmp 2)]) := by kernel_rfl
end
end Go.Proofs.Ytbdpdmojepiepaa
