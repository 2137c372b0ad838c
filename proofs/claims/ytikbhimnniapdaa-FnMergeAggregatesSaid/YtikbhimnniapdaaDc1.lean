/-
  Functions of the program read as code on plain data. Closed facts of the program alone.
-/
import Derived.Test.YtikbhimnniapdaaRows
import Derived.Test.YtikbhimnniapdaaVLib
import Derived.KernelRfl
namespace Go.Proofs.Ytikbhimnniapdaa
open Go.RowKit
noncomputable section
def r_spec_inRange_0 : List GI := [(GI.mk (In.mov 6 (Opd.k (D.v (Value.bool false)))) (some 6) none false)]
def r_spec_inRange_1 : List GI := [(GI.mk (In.mov 7 (Opd.t 0)) (some 7) none false), (GI.mk (In.mov 8 (Opd.t 1)) (some 8) none false), (GI.mk (In.bin 9 BinOp.geq (Opd.t 7) (Opd.t 8)) (some 9) none false), (GI.mk (In.mov 10 (Opd.t 9)) (some 10) none false), (GI.mk (In.mov 11 (Opd.t 0)) (some 11) (some (10, true)) false), (GI.mk (In.mov 12 (Opd.t 2)) (some 12) (some (10, true)) false), (GI.mk (In.bin 13 BinOp.leq (Opd.t 11) (Opd.t 12)) (some 13) (some (10, true)) false), (GI.mk (In.pick 14 (Opd.t 10) (Opd.t 13) (Opd.k (D.v (Value.bool false)))) (some 14) none false), (GI.mk (In.mov 6 (Opd.t 14)) (some 6) none false)]
def dc_spec_inRange : DC := (DC.seq (DC.reg r_spec_inRange_0 none) (DC.seq (DC.reg r_spec_inRange_1 none) DC.ret))
theorem c_spec_inRange : cfun Try.prog [] 26 = some (15, dc_spec_inRange, [(Res.tmp 6)]) := by kernel_rfl
def r_spec_validValue_0 : List GI := [(GI.mk (In.box 1 2000001 (Opd.t 0) (some 2)) (some 1) none false), (GI.mk (In.mov 2 (Opd.k (D.v (Value.bool false)))) (some 2) none false)]
def r_spec_validValue_1 : List GI := [(GI.mk (In.fad 3 1 1) (some 3) none false), (GI.mk (In.lod 4 3 none) (some 4) none false), (GI.mk (In.call 5 26 [(Opd.t 4), (Opd.k (D.v (Value.int IntKind.i64 (-9999)))), (Opd.k (D.v (Value.int IntKind.i64 9999)))]) (some 5) none true), (GI.mk (In.mov 6 (Opd.t 5)) (some 6) none false), (GI.mk (In.fad 7 1 0) (some 7) (some (6, true)) false), (GI.mk (In.lod 8 7 none) (some 8) (some (6, true)) false), (GI.mk (In.un 9 UnOp.not (Opd.t 8)) (some 9) (some (6, true)) false), (GI.mk (In.mov 10 (Opd.t 9)) (some 10) (some (6, true)) false), (GI.mk (In.fad 11 1 1) (some 11) (some (10, false)) false), (GI.mk (In.lod 12 11 none) (some 12) (some (10, false)) false), (GI.mk (In.bin 13 BinOp.eql (Opd.t 12) (Opd.k (D.v (Value.int IntKind.i64 0)))) (some 13) (some (10, false)) false), (GI.mk (In.pick 14 (Opd.t 10) (Opd.k (D.v (Value.bool true))) (Opd.t 13)) (some 14) (some (6, true)) false), (GI.mk (In.pick 15 (Opd.t 6) (Opd.t 14) (Opd.k (D.v (Value.bool false)))) (some 15) none false), (GI.mk (In.mov 2 (Opd.t 15)) (some 2) none false)]
def dc_spec_validValue : DC := (DC.seq (DC.reg r_spec_validValue_0 none) (DC.seq (DC.reg r_spec_validValue_1 none) DC.ret))
theorem c_spec_validValue : cfun Try.prog [] 25 = some (16, dc_spec_validValue, [(Res.tmp 2)]) := by kernel_rfl
end
end Go.Proofs.Ytikbhimnniapdaa
