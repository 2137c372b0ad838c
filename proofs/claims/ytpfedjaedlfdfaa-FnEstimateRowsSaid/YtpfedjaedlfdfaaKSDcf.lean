/-
  Functions of the program read as code on plain data. Closed facts of the program alone.
-/
import Derived.KernelRfl
import Derived.Test.YtpfedjaedlfdfaaRows
import Derived.Test.YtpfedjaedlfdfaaJSVCall
namespace Go.Proofs.Ytpfedjaedlfdfaa
open Go.RowKit
noncomputable section
def r_spec_statsFor_0 : List GI := [gi 4 (.mov 4 (.k .nul))]
def r_spec_statsFor_1 : List GI := [gi 7 (.mov 7 (.k .nul)), gi 5 (.mov 5 (.t 7))]
def r_spec_statsFor_2 : List GI := [gi 6 (.mov 6 (.k (.v (.int .i64 0))))]
def r_spec_statsFor_3 : List GI := [gi 8 (.mov 8 (.t 6)), gi 9 (.mov 9 (.t 1)), gi 10 (.len 10 (.t 9)), gi 11 (.bin 11 .lss (.t 8) (.t 10))]
def r_spec_statsFor_4 : List GI := [gi 14 (.mov 14 (.t 5)), gi 15 (.mov 15 (.t 0)), gi 16 (.mov 16 (.t 1)), gi 17 (.mov 17 (.t 6)), gi 18 (.iad 18 16 (.t 17) 1), gi 19 (.lod 19 18 none), gi 20 (.mm 20 true (.t 19) (.k (.v (.int .i64 1)))), gi 21 (.mm 21 false (.t 20) (.k (.v (.int .i64 6)))), ⟨.call 22 66 [.t 15, .t 21, .k (.v (.int .i64 8))], some 22, none, true⟩, ⟨.call 23 65 [.t 22], some 23, none, true⟩, gi 24 (.bsl 24 3 (some 3) [.agg [.v (.int .i64 0), .nul, .nul]] [(0, .t 23)]), gi 25 (.app 25 2000025 (.t 14) (.t 24) 3 56), gi 5 (.mov 5 (.t 25))]
def r_spec_statsFor_5 : List GI := [gi 12 (.mov 12 (.t 6)), gi 13 (.bin 13 .add (.t 12) (.k (.v (.int .i64 1)))), gi 6 (.mov 6 (.t 13))]
def r_spec_statsFor_6 : List GI := [gi 26 (.mov 26 (.t 0)), ⟨.call 27 38 [.t 26, .k (.v (.int .i64 16))], some 27, none, true⟩, gi 28 (.bin 28 .eql (.t 27) (.k (.v (.int .i64 0))))]
def r_spec_statsFor_7 : List GI := [gi 29 (.mov 29 (.t 5)), gi 30 (.mov 30 (.t 0)), gi 31 (.mov 31 (.t 1)), gi 32 (.iad 32 31 (.k (.v (.int .i64 0))) 1), gi 33 (.lod 33 32 none), gi 34 (.mm 34 true (.t 33) (.k (.v (.int .i64 1)))), gi 35 (.mm 35 false (.t 34) (.k (.v (.int .i64 6)))), ⟨.call 36 67 [.t 30, .t 35], some 36, none, true⟩, gi 37 (.iad 37 29 (.k (.v (.int .i64 0))) 3), g0 (.sto 37 (.t 36) (some 3))]
def r_spec_statsFor_8 : List GI := [gi 38 (.mov 38 (.t 5)), gi 4 (.mov 4 (.t 38))]
def dc_spec_statsFor : DC := .seq (.reg r_spec_statsFor_0 none) (.seq (.reg r_spec_statsFor_1 none) (.seq (.seq (.reg r_spec_statsFor_2 none) (.block 0 (.loop (.seq (.seq (.reg r_spec_statsFor_3 none) (.cond (.t 11) .skip (.exit 0))) (.seq (.block 1 (.reg r_spec_statsFor_4 none)) (.reg r_spec_statsFor_5 none)))))) (.seq (.seq (.reg r_spec_statsFor_6 none) (.cond (.t 28) (.reg r_spec_statsFor_7 none) .skip)) (.seq (.reg r_spec_statsFor_8 none) .ret))))
theorem c_spec_statsFor : cfun Try.prog [] 41 = some (39, dc_spec_statsFor, [(Res.tmp 4)]) := by kernel_rfl
def r_impl_rowBounds_filter_0 : List GI := [gi 3 (.box 3 2000003 (.t 0) (some 1)), gi 4 (.box 4 2000004 (.t 1) (some 5)), gi 6 (.mov 6 (.k (.v (.int .i64 0))))]
def r_impl_rowBounds_filter_1 : List GI := [gi 7 (.mov 7 (.t 2)), gi 6 (.mov 6 (.t 7))]
def dc_impl_rowBounds_filter : DC := .seq (.reg r_impl_rowBounds_filter_0 none) (.seq (.reg r_impl_rowBounds_filter_1 none) .ret)
theorem c_impl_rowBounds_filter : cfun Try.prog [] 146 = some (8, dc_impl_rowBounds_filter, [(Res.tmp 6)]) := by kernel_rfl
def r_impl_rowBounds_leftJoin_0 : List GI := [gi 4 (.box 4 2000004 (.t 0) (some 1)), gi 5 (.box 5 2000005 (.t 1) (some 5)), gi 8 (.mov 8 (.k (.v (.int .i64 0))))]
def r_impl_rowBounds_leftJoin_1 : List GI := [gi 9 (.mov 9 (.t 2)), gi 10 (.mov 10 (.t 3)), gi 11 (.mm 11 true (.t 10) (.k (.v (.int .i64 1)))), gi 12 (.bin 12 .mul (.t 9) (.t 11)), gi 13 (.mm 13 false (.t 12) (.k (.v (.int .i64 1000000000)))), gi 8 (.mov 8 (.t 13))]
def dc_impl_rowBounds_leftJoin : DC := .seq (.reg r_impl_rowBounds_leftJoin_0 none) (.seq (.reg r_impl_rowBounds_leftJoin_1 none) .ret)
theorem c_impl_rowBounds_leftJoin : cfun Try.prog [] 149 = some (14, dc_impl_rowBounds_leftJoin, [(Res.tmp 8)]) := by kernel_rfl
end
end Go.Proofs.Ytpfedjaedlfdfaa
