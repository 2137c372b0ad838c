/-
  Functions of the program read as code on plain data. Closed facts of the program alone.
-/
import Derived.Test.YtnnoijfofgjfkaaRows
import Derived.Test.YtnnoijfofgjfkaaVLib
import Derived.KernelRfl
namespace Go.Proofs.Ytnnoijfofgjfkaa
open Go.RowKit
noncomputable section
def r_cmp_Compare_int__0 : List GI := [(GI.mk (In.mov 4 (Opd.k (D.v (Value.int IntKind.i64 0)))) (some 4) none false)]
def r_cmp_Compare_int__1 : List GI := [(GI.mk (In.mov 7 (Opd.t 0)) (some 7) none false), (GI.mk (In.call 8 38 [(Opd.t 7)]) (some 8) none true), (GI.mk (In.mov 5 (Opd.t 8)) (some 5) none false)]
def r_cmp_Compare_int__2 : List GI := [(GI.mk (In.mov 9 (Opd.t 1)) (some 9) none false), (GI.mk (In.call 10 38 [(Opd.t 9)]) (some 10) none true), (GI.mk (In.mov 6 (Opd.t 10)) (some 6) none false)]
def r_cmp_Compare_int__3 : List GI := [(GI.mk (In.mov 11 (Opd.t 5)) (some 11) none false)]
def r_cmp_Compare_int__4 : List GI := [(GI.mk (In.mov 12 (Opd.t 6)) (some 12) none false)]
def r_cmp_Compare_int__5 : List GI := [(GI.mk (In.mov 4 (Opd.k (D.v (Value.int IntKind.i64 0)))) (some 4) none false)]
def r_cmp_Compare_int__6 : List GI := [(GI.mk (In.mov 4 (Opd.k (D.v (Value.int IntKind.i64 (-1))))) (some 4) none false)]
def r_cmp_Compare_int__7 : List GI := [(GI.mk (In.mov 13 (Opd.t 6)) (some 13) none false)]
def r_cmp_Compare_int__8 : List GI := [(GI.mk (In.mov 4 (Opd.k (D.v (Value.int IntKind.i64 1)))) (some 4) none false)]
def r_cmp_Compare_int__9 : List GI := [(GI.mk (In.mov 14 (Opd.t 0)) (some 14) none false), (GI.mk (In.mov 15 (Opd.t 1)) (some 15) none false), (GI.mk (In.bin 16 BinOp.lss (Opd.t 14) (Opd.t 15)) (some 16) none false)]
def r_cmp_Compare_int__10 : List GI := [(GI.mk (In.mov 4 (Opd.k (D.v (Value.int IntKind.i64 (-1))))) (some 4) none false)]
def r_cmp_Compare_int__11 : List GI := [(GI.mk (In.mov 17 (Opd.t 0)) (some 17) none false), (GI.mk (In.mov 18 (Opd.t 1)) (some 18) none false), (GI.mk (In.bin 19 BinOp.gtr (Opd.t 17) (Opd.t 18)) (some 19) none false)]
def r_cmp_Compare_int__12 : List GI := [(GI.mk (In.mov 4 (Opd.k (D.v (Value.int IntKind.i64 1)))) (some 4) none false)]
def r_cmp_Compare_int__13 : List GI := [(GI.mk (In.mov 4 (Opd.k (D.v (Value.int IntKind.i64 0)))) (some 4) none false)]
def dc_cmp_Compare_int_ : DC := (DC.seq (DC.reg r_cmp_Compare_int__0 none) (DC.seq (DC.reg r_cmp_Compare_int__1 none) (DC.seq (DC.reg r_cmp_Compare_int__2 none) (DC.seq (DC.seq (DC.reg r_cmp_Compare_int__3 none) (DC.cond (Opd.t 11) (DC.seq (DC.seq (DC.reg r_cmp_Compare_int__4 none) (DC.cond (Opd.t 12) (DC.seq (DC.reg r_cmp_Compare_int__5 none) DC.ret) DC.skip)) (DC.seq (DC.reg r_cmp_Compare_int__6 none) DC.ret)) DC.skip)) (DC.seq (DC.seq (DC.reg r_cmp_Compare_int__7 none) (DC.cond (Opd.t 13) (DC.seq (DC.reg r_cmp_Compare_int__8 none) DC.ret) DC.skip)) (DC.seq (DC.seq (DC.reg r_cmp_Compare_int__9 none) (DC.cond (Opd.t 16) (DC.seq (DC.reg r_cmp_Compare_int__10 none) DC.ret) DC.skip)) (DC.seq (DC.seq (DC.reg r_cmp_Compare_int__11 none) (DC.cond (Opd.t 19) (DC.seq (DC.reg r_cmp_Compare_int__12 none) DC.ret) DC.skip)) (DC.seq (DC.reg r_cmp_Compare_int__13 none) DC.ret))))))))
theorem c_cmp_Compare_int_ : cfun Try.prog [] 37 = some (20, dc_cmp_Compare_int_, [(Res.tmp 4)]) := by kernel_rfl
def r_cmp_isNaN_int__0 : List GI := [(GI.mk (In.mov 2 (Opd.k (D.v (Value.bool false)))) (some 2) none false)]
def r_cmp_isNaN_int__1 : List GI := [(GI.mk (In.mov 3 (Opd.t 0)) (some 3) none false), (GI.mk (In.mov 4 (Opd.t 0)) (some 4) none false), (GI.mk (In.bin 5 BinOp.neq (Opd.t 3) (Opd.t 4)) (some 5) none false), (GI.mk (In.mov 2 (Opd.t 5)) (some 2) none false)]
def dc_cmp_isNaN_int_ : DC := (DC.seq (DC.reg r_cmp_isNaN_int__0 none) (DC.seq (DC.reg r_cmp_isNaN_int__1 none) DC.ret))
theorem c_cmp_isNaN_int_ : cfun Try.prog [] 38 = some (6, dc_cmp_isNaN_int_, [(Res.tmp 2)]) := by kernel_rfl
def r_slices_IsSortedFunc_____loop_example_queryoptimizer_impl_Value___loop_example_queryoptimizer_impl_Value__0 : List GI := [(GI.mk (In.mov 4 (Opd.k (D.v (Value.bool false)))) (some 4) none false)]
def r_slices_IsSortedFunc_____loop_example_queryoptimizer_impl_Value___loop_example_queryoptimizer_impl_Value__1 : List GI := [(GI.mk (In.mov 6 (Opd.t 0)) (some 6) none false), (GI.mk (In.len 7 (Opd.t 6)) (some 7) none false), (GI.mk (In.bin 8 BinOp.sub (Opd.t 7) (Opd.k (D.v (Value.int IntKind.i64 1)))) (some 8) none false), (GI.mk (In.mov 5 (Opd.t 8)) (some 5) none false)]
def r_slices_IsSortedFunc_____loop_example_queryoptimizer_impl_Value___loop_example_queryoptimizer_impl_Value__2 : List GI := [(GI.mk (In.mov 9 (Opd.t 5)) (some 9) none false), (GI.mk (In.bin 10 BinOp.gtr (Opd.t 9) (Opd.k (D.v (Value.int IntKind.i64 0)))) (some 10) none false)]
def r_slices_IsSortedFunc_____loop_example_queryoptimizer_impl_Value___loop_example_queryoptimizer_impl_Value__3 : List GI := [(GI.mk (In.mov 13 (Opd.t 1)) (some 13) none false), (GI.mk (In.mov 14 (Opd.t 0)) (some 14) none false), (GI.mk (In.mov 15 (Opd.t 5)) (some 15) none false), (GI.mk (In.iad 16 14 (Opd.t 15) 1) (some 16) none false), (GI.mk (In.lod 17 16 none) (some 17) none false), (GI.mk (In.mov 18 (Opd.t 0)) (some 18) none false), (GI.mk (In.mov 19 (Opd.t 5)) (some 19) none false), (GI.mk (In.bin 20 BinOp.sub (Opd.t 19) (Opd.k (D.v (Value.int IntKind.i64 1)))) (some 20) none false), (GI.mk (In.iad 21 18 (Opd.t 20) 1) (some 21) none false), (GI.mk (In.lod 22 21 none) (some 22) none false), (GI.mk (In.cal 23 (Opd.t 13) [(Opd.t 17), (Opd.t 22)]) (some 23) none true), (GI.mk (In.bin 24 BinOp.lss (Opd.t 23) (Opd.k (D.v (Value.int IntKind.i64 0)))) (some 24) none false)]
def r_slices_IsSortedFunc_____loop_example_queryoptimizer_impl_Value___loop_example_queryoptimizer_impl_Value__4 : List GI := [(GI.mk (In.mov 4 (Opd.k (D.v (Value.bool false)))) (some 4) none false)]
def r_slices_IsSortedFunc_____loop_example_queryoptimizer_impl_Value___loop_example_queryoptimizer_impl_Value__5 : List GI := [(GI.mk (In.mov 11 (Opd.t 5)) (some 11) none false), (GI.mk (In.bin 12 BinOp.sub (Opd.t 11) (Opd.k (D.v (Value.int IntKind.i64 1)))) (some 12) none false), (GI.mk (In.mov 5 (Opd.t 12)) (some 5) none false)]
def r_slices_IsSortedFunc_____loop_example_queryoptimizer_impl_Value___loop_example_queryoptimizer_impl_Value__6 : List GI := [(GI.mk (In.mov 4 (Opd.k (D.v (Value.bool true)))) (some 4) none false)]
def dc_slices_IsSortedFunc_____loop_example_queryoptimizer_impl_Value___loop_example_queryoptimizer_impl_Value_ : DC := (DC.seq (DC.reg r_slices_IsSortedFunc_____loop_example_queryoptimizer_impl_Value___loop_example_queryoptimizer_impl_Value__0 none) (DC.seq (DC.seq (DC.reg r_slices_IsSortedFunc_____loop_example_queryoptimizer_impl_Value___loop_example_queryoptimizer_impl_Value__1 none) (DC.block 0 (DC.loop (DC.seq (DC.seq (DC.reg r_slices_IsSortedFunc_____loop_example_queryoptimizer_impl_Value___loop_example_queryoptimizer_impl_Value__2 none) (DC.cond (Opd.t 10) DC.skip (DC.exit 0))) (DC.seq (DC.block 1 (DC.seq (DC.reg r_slices_IsSortedFunc_____loop_example_queryoptimizer_impl_Value___loop_example_queryoptimizer_impl_Value__3 (some [0, 0, 0, 6, 14, 0, 0, 64, 224, 480, 1023, 2047])) (DC.cond (Opd.t 24) (DC.seq (DC.reg r_slices_IsSortedFunc_____loop_example_queryoptimizer_impl_Value___loop_example_queryoptimizer_impl_Value__4 none) DC.ret) DC.skip))) (DC.reg r_slices_IsSortedFunc_____loop_example_queryoptimizer_impl_Value___loop_example_queryoptimizer_impl_Value__5 none)))))) (DC.seq (DC.reg r_slices_IsSortedFunc_____loop_example_queryoptimizer_impl_Value___loop_example_queryoptimizer_impl_Value__6 none) DC.ret)))
theorem c_slices_IsSortedFunc_____loop_example_queryoptimizer_impl_Value___loop_example_queryoptimizer_impl_Value_ : cfun Try.prog [] 19 = some (25, dc_slices_IsSortedFunc_____loop_example_queryoptimizer_impl_Value___loop_example_queryoptimizer_impl_Value_, [(Res.tmp 4)]) := by kernel_rfl
end
end Go.Proofs.Ytnnoijfofgjfkaa
