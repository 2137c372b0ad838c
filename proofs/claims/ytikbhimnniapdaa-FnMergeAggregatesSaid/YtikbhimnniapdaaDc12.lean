/-
  Functions of the program read as code on plain data. Closed facts of the program alone.
-/
import Derived.Test.YtikbhimnniapdaaRows
import Derived.Test.YtikbhimnniapdaaVLib
import Derived.KernelRfl
namespace Go.Proofs.Ytikbhimnniapdaa
open Go.RowKit
noncomputable section
def r_slices_Min___int_int__0 : List GI := [(GI.mk (In.mov 2 (Opd.k (D.v (Value.int IntKind.i64 0)))) (some 2) none false)]
def r_slices_Min___int_int__1 : List GI := [(GI.mk (In.mov 5 (Opd.t 0)) (some 5) none false), (GI.mk (In.len 6 (Opd.t 5)) (some 6) none false), (GI.mk (In.bin 7 BinOp.lss (Opd.t 6) (Opd.k (D.v (Value.int IntKind.i64 1)))) (some 7) none false)]
def r_slices_Min___int_int__2 : List GI := [(GI.mk (In.mov 9 (Opd.t 0)) (some 9) none false), (GI.mk (In.iad 10 9 (Opd.k (D.v (Value.int IntKind.i64 0))) 1) (some 10) none false), (GI.mk (In.lod 11 10 none) (some 11) none false), (GI.mk (In.mov 3 (Opd.t 11)) (some 3) none false)]
def r_slices_Min___int_int__3 : List GI := [(GI.mk (In.mov 4 (Opd.k (D.v (Value.int IntKind.i64 1)))) (some 4) none false)]
def r_slices_Min___int_int__4 : List GI := [(GI.mk (In.mov 12 (Opd.t 4)) (some 12) none false), (GI.mk (In.mov 13 (Opd.t 0)) (some 13) none false), (GI.mk (In.len 14 (Opd.t 13)) (some 14) none false), (GI.mk (In.bin 15 BinOp.lss (Opd.t 12) (Opd.t 14)) (some 15) none false)]
def r_slices_Min___int_int__5 : List GI := [(GI.mk (In.mov 18 (Opd.t 3)) (some 18) none false), (GI.mk (In.mov 19 (Opd.t 0)) (some 19) none false), (GI.mk (In.mov 20 (Opd.t 4)) (some 20) none false), (GI.mk (In.iad 21 19 (Opd.t 20) 1) (some 21) none false), (GI.mk (In.lod 22 21 none) (some 22) none false), (GI.mk (In.mm 23 false (Opd.t 18) (Opd.t 22)) (some 23) none false), (GI.mk (In.mov 3 (Opd.t 23)) (some 3) none false)]
def r_slices_Min___int_int__6 : List GI := [(GI.mk (In.mov 16 (Opd.t 4)) (some 16) none false), (GI.mk (In.bin 17 BinOp.add (Opd.t 16) (Opd.k (D.v (Value.int IntKind.i64 1)))) (some 17) none false), (GI.mk (In.mov 4 (Opd.t 17)) (some 4) none false)]
def r_slices_Min___int_int__7 : List GI := [(GI.mk (In.mov 24 (Opd.t 3)) (some 24) none false), (GI.mk (In.mov 2 (Opd.t 24)) (some 2) none false)]
def dc_slices_Min___int_int_ : DC := (DC.seq (DC.reg r_slices_Min___int_int__0 none) (DC.seq (DC.seq (DC.reg r_slices_Min___int_int__1 none) (DC.cond (Opd.t 7) DC.no DC.skip)) (DC.seq (DC.reg r_slices_Min___int_int__2 none) (DC.seq (DC.seq (DC.reg r_slices_Min___int_int__3 none) (DC.block 0 (DC.loop (DC.seq (DC.seq (DC.reg r_slices_Min___int_int__4 none) (DC.cond (Opd.t 15) DC.skip (DC.exit 0))) (DC.seq (DC.block 1 (DC.reg r_slices_Min___int_int__5 none)) (DC.reg r_slices_Min___int_int__6 none)))))) (DC.seq (DC.reg r_slices_Min___int_int__7 none) DC.ret)))))
theorem c_slices_Min___int_int_ : cfun Try.prog [] 60 = some (25, dc_slices_Min___int_int_, [(Res.tmp 2)]) := by kernel_rfl
def r_slices_Max___int_int__0 : List GI := [(GI.mk (In.mov 2 (Opd.k (D.v (Value.int IntKind.i64 0)))) (some 2) none false)]
def r_slices_Max___int_int__1 : List GI := [(GI.mk (In.mov 5 (Opd.t 0)) (some 5) none false), (GI.mk (In.len 6 (Opd.t 5)) (some 6) none false), (GI.mk (In.bin 7 BinOp.lss (Opd.t 6) (Opd.k (D.v (Value.int IntKind.i64 1)))) (some 7) none false)]
def r_slices_Max___int_int__2 : List GI := [(GI.mk (In.mov 9 (Opd.t 0)) (some 9) none false), (GI.mk (In.iad 10 9 (Opd.k (D.v (Value.int IntKind.i64 0))) 1) (some 10) none false), (GI.mk (In.lod 11 10 none) (some 11) none false), (GI.mk (In.mov 3 (Opd.t 11)) (some 3) none false)]
def r_slices_Max___int_int__3 : List GI := [(GI.mk (In.mov 4 (Opd.k (D.v (Value.int IntKind.i64 1)))) (some 4) none false)]
def r_slices_Max___int_int__4 : List GI := [(GI.mk (In.mov 12 (Opd.t 4)) (some 12) none false), (GI.mk (In.mov 13 (Opd.t 0)) (some 13) none false), (GI.mk (In.len 14 (Opd.t 13)) (some 14) none false), (GI.mk (In.bin 15 BinOp.lss (Opd.t 12) (Opd.t 14)) (some 15) none false)]
def r_slices_Max___int_int__5 : List GI := [(GI.mk (In.mov 18 (Opd.t 3)) (some 18) none false), (GI.mk (In.mov 19 (Opd.t 0)) (some 19) none false), (GI.mk (In.mov 20 (Opd.t 4)) (some 20) none false), (GI.mk (In.iad 21 19 (Opd.t 20) 1) (some 21) none false), (GI.mk (In.lod 22 21 none) (some 22) none false), (GI.mk (In.mm 23 true (Opd.t 18) (Opd.t 22)) (some 23) none false), (GI.mk (In.mov 3 (Opd.t 23)) (some 3) none false)]
def r_slices_Max___int_int__6 : List GI := [(GI.mk (In.mov 16 (Opd.t 4)) (some 16) none false), (GI.mk (In.bin 17 BinOp.add (Opd.t 16) (Opd.k (D.v (Value.int IntKind.i64 1)))) (some 17) none false), (GI.mk (In.mov 4 (Opd.t 17)) (some 4) none false)]
def r_slices_Max___int_int__7 : List GI := [(GI.mk (In.mov 24 (Opd.t 3)) (some 24) none false), (GI.mk (In.mov 2 (Opd.t 24)) (some 2) none false)]
def dc_slices_Max___int_int_ : DC := (DC.seq (DC.reg r_slices_Max___int_int__0 none) (DC.seq (DC.seq (DC.reg r_slices_Max___int_int__1 none) (DC.cond (Opd.t 7) DC.no DC.skip)) (DC.seq (DC.reg r_slices_Max___int_int__2 none) (DC.seq (DC.seq (DC.reg r_slices_Max___int_int__3 none) (DC.block 0 (DC.loop (DC.seq (DC.seq (DC.reg r_slices_Max___int_int__4 none) (DC.cond (Opd.t 15) DC.skip (DC.exit 0))) (DC.seq (DC.block 1 (DC.reg r_slices_Max___int_int__5 none)) (DC.reg r_slices_Max___int_int__6 none)))))) (DC.seq (DC.reg r_slices_Max___int_int__7 none) DC.ret)))))
theorem c_slices_Max___int_int_ : cfun Try.prog [] 63 = some (25, dc_slices_Max___int_int_, [(Res.tmp 2)]) := by kernel_rfl
end
end Go.Proofs.Ytikbhimnniapdaa
