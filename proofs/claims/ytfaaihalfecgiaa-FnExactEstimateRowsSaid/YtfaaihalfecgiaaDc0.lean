/-
  Functions of the program read as code on plain data. Closed facts of the program alone.
-/
import Derived.Test.YtfaaihalfecgiaaRows
import Derived.Test.YtfaaihalfecgiaaVLib
import Derived.KernelRfl
namespace Go.Proofs.Ytfaaihalfecgiaa
open Go.RowKit
noncomputable section
theorem mixed : Try.prog.follows .mixedOrders = true := by kernel_rfl
def r_spec_toInt_0 : List GI := [(GI.mk (In.mov 2 (Opd.k (D.v (Value.int IntKind.i64 0)))) (some 2) none false)]
def r_spec_toInt_1 : List GI := [(GI.mk (In.mov 3 (Opd.t 0)) (some 3) none false)]
def r_spec_toInt_2 : List GI := [(GI.mk (In.mov 2 (Opd.k (D.v (Value.int IntKind.i64 1)))) (some 2) none false)]
def r_spec_toInt_3 : List GI := [(GI.mk (In.mov 2 (Opd.k (D.v (Value.int IntKind.i64 0)))) (some 2) none false)]
def dc_spec_toInt : DC := (DC.seq (DC.reg r_spec_toInt_0 none) (DC.seq (DC.seq (DC.reg r_spec_toInt_1 none) (DC.cond (Opd.t 3) (DC.seq (DC.reg r_spec_toInt_2 none) DC.ret) DC.skip)) (DC.seq (DC.reg r_spec_toInt_3 none) DC.ret)))
theorem c_spec_toInt : cfun Try.prog [] 64 = some (4, dc_spec_toInt, [(Res.tmp 2)]) := by kernel_rfl
def r_spec_kidsOf_0 : List GI := [(GI.mk (In.mov 2 (Opd.k (D.v (Value.int IntKind.i64 0)))) (some 2) none false)]
def r_spec_kidsOf_1 : List GI := [(GI.mk (In.mov 3 (Opd.t 0)) (some 3) none false)]
def r_spec_kidsOf_2 : List GI := [(GI.mk (In.bin 5 BinOp.eql (Opd.t 3) (Opd.k (D.v (Value.int IntKind.i64 1)))) (some 5) none false), (GI.mk (In.mov 4 (Opd.t 5)) (some 4) none false)]
def r_spec_kidsOf_3 : List GI := [(GI.mk (In.bin 6 BinOp.eql (Opd.t 3) (Opd.k (D.v (Value.int IntKind.i64 2)))) (some 6) none false), (GI.mk (In.mov 4 (Opd.t 6)) (some 4) none false)]
def r_spec_kidsOf_4 : List GI := [(GI.mk (In.mov 2 (Opd.k (D.v (Value.int IntKind.i64 0)))) (some 2) none false)]
def r_spec_kidsOf_5 : List GI := [(GI.mk (In.bin 8 BinOp.eql (Opd.t 3) (Opd.k (D.v (Value.int IntKind.i64 10)))) (some 8) none false), (GI.mk (In.mov 7 (Opd.t 8)) (some 7) none false)]
def r_spec_kidsOf_6 : List GI := [(GI.mk (In.bin 9 BinOp.eql (Opd.t 3) (Opd.k (D.v (Value.int IntKind.i64 11)))) (some 9) none false), (GI.mk (In.mov 7 (Opd.t 9)) (some 7) none false)]
def r_spec_kidsOf_7 : List GI := [(GI.mk (In.mov 2 (Opd.k (D.v (Value.int IntKind.i64 1)))) (some 2) none false)]
def r_spec_kidsOf_8 : List GI := [(GI.mk (In.bin 11 BinOp.eql (Opd.t 3) (Opd.k (D.v (Value.int IntKind.i64 3)))) (some 11) none false), (GI.mk (In.mov 10 (Opd.t 11)) (some 10) none false)]
def r_spec_kidsOf_9 : List GI := [(GI.mk (In.bin 12 BinOp.eql (Opd.t 3) (Opd.k (D.v (Value.int IntKind.i64 4)))) (some 12) none false), (GI.mk (In.mov 10 (Opd.t 12)) (some 10) none false)]
def r_spec_kidsOf_10 : List GI := [(GI.mk (In.bin 13 BinOp.eql (Opd.t 3) (Opd.k (D.v (Value.int IntKind.i64 5)))) (some 13) none false), (GI.mk (In.mov 10 (Opd.t 13)) (some 10) none false)]
def r_spec_kidsOf_11 : List GI := [(GI.mk (In.bin 14 BinOp.eql (Opd.t 3) (Opd.k (D.v (Value.int IntKind.i64 6)))) (some 14) none false), (GI.mk (In.mov 10 (Opd.t 14)) (some 10) none false)]
def r_spec_kidsOf_12 : List GI := [(GI.mk (In.bin 15 BinOp.eql (Opd.t 3) (Opd.k (D.v (Value.int IntKind.i64 7)))) (some 15) none false), (GI.mk (In.mov 10 (Opd.t 15)) (some 10) none false)]
def r_spec_kidsOf_13 : List GI := [(GI.mk (In.bin 16 BinOp.eql (Opd.t 3) (Opd.k (D.v (Value.int IntKind.i64 8)))) (some 16) none false), (GI.mk (In.mov 10 (Opd.t 16)) (some 10) none false)]
def r_spec_kidsOf_14 : List GI := [(GI.mk (In.bin 17 BinOp.eql (Opd.t 3) (Opd.k (D.v (Value.int IntKind.i64 9)))) (some 17) none false), (GI.mk (In.mov 10 (Opd.t 17)) (some 10) none false)]
def r_spec_kidsOf_15 : List GI := [(GI.mk (In.mov 2 (Opd.k (D.v (Value.int IntKind.i64 2)))) (some 2) none false)]
def r_spec_kidsOf_16 : List GI := [(GI.mk (In.mov 2 (Opd.k (D.v (Value.int IntKind.i64 (-1))))) (some 2) none false)]
def dc_spec_kidsOf : DC := (DC.seq (DC.reg r_spec_kidsOf_0 none) (DC.seq (DC.seq (DC.reg r_spec_kidsOf_1 none) (DC.block 0 (DC.seq (DC.seq (DC.reg r_spec_kidsOf_2 none) (DC.cond (Opd.t 4) DC.skip (DC.reg r_spec_kidsOf_3 none))) (DC.cond (Opd.t 4) (DC.seq (DC.reg r_spec_kidsOf_4 none) DC.ret) (DC.seq (DC.seq (DC.reg r_spec_kidsOf_5 none) (DC.cond (Opd.t 7) DC.skip (DC.reg r_spec_kidsOf_6 none))) (DC.cond (Opd.t 7) (DC.seq (DC.reg r_spec_kidsOf_7 none) DC.ret) (DC.seq (DC.seq (DC.reg r_spec_kidsOf_8 none) (DC.cond (Opd.t 10) DC.skip (DC.seq (DC.reg r_spec_kidsOf_9 none) (DC.cond (Opd.t 10) DC.skip (DC.seq (DC.reg r_spec_kidsOf_10 none) (DC.cond (Opd.t 10) DC.skip (DC.seq (DC.reg r_spec_kidsOf_11 none) (DC.cond (Opd.t 10) DC.skip (DC.seq (DC.reg r_spec_kidsOf_12 none) (DC.cond (Opd.t 10) DC.skip (DC.seq (DC.reg r_spec_kidsOf_13 none) (DC.cond (Opd.t 10) DC.skip (DC.reg r_spec_kidsOf_14 none))))))))))))) (DC.cond (Opd.t 10) (DC.seq (DC.reg r_spec_kidsOf_15 none) DC.ret) DC.skip)))))))) (DC.seq (DC.reg r_spec_kidsOf_16 none) DC.ret)))
theorem c_spec_kidsOf : cfun Try.prog [] 77 = some (18, dc_spec_kidsOf, [(Res.tmp 2)]) := by kernel_rfl
end
end Go.Proofs.Ytfaaihalfecgiaa
