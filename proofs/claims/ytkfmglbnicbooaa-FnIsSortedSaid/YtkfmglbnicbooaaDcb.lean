/-
  Functions of the program read as code on plain data. Closed facts of the program alone.
-/
import Derived.Test.YtkfmglbnicbooaaRows
import Derived.Test.YtkfmglbnicbooaaVLib
import Derived.KernelRfl
namespace Go.Proofs.Ytkfmglbnicbooaa
open Go.RowKit
noncomputable section
def r_impl_SortKey_order_0 : List GI := [⟨.box 1 2000001 (.t 0) (some 2), some 1, none, false⟩, ⟨.mov 2 (.k (.v .nilFunc)), some 2, none, false⟩]
def r_impl_SortKey_order_1 : List GI := [⟨.mkf 4 57 [.t 1], some 4, none, false⟩, ⟨.mov 3 (.t 4), some 3, none, false⟩]
def r_impl_SortKey_order_2 : List GI := [⟨.fad 5 1 1, some 5, none, false⟩, ⟨.lod 6 5 none, some 6, none, false⟩]
def r_impl_SortKey_order_3 : List GI := [⟨.mov 7 (.t 3), some 7, none, false⟩, ⟨.call 8 59 [.t 7], some 8, none, true⟩, ⟨.mov 2 (.t 8), some 2, none, false⟩]
def r_impl_SortKey_order_4 : List GI := [⟨.mov 9 (.t 3), some 9, none, false⟩, ⟨.mov 2 (.t 9), some 2, none, false⟩]
def dc_impl_SortKey_order : DC := .seq (.reg r_impl_SortKey_order_0 none) (.seq (.reg r_impl_SortKey_order_1 none) (.seq (.seq (.reg r_impl_SortKey_order_2 none) (.cond (.t 6) (.seq (.reg r_impl_SortKey_order_3 none) .ret) .skip)) (.seq (.reg r_impl_SortKey_order_4 none) .ret)))
theorem c_impl_SortKey_order : cfun Try.prog [] 45 = some (10, dc_impl_SortKey_order, [(Res.tmp 2)]) := by kernel_rfl
def r_impl_orderBy_0 : List GI := [⟨.mov 2 (.k (.v .nilFunc)), some 2, none, false⟩]
def r_impl_orderBy_1 : List GI := [⟨.mov 3 (.k (.fn 43 [])), some 3, none, false⟩]
def r_impl_orderBy_2 : List GI := [⟨.mov 6 (.t 0), some 6, none, false⟩, ⟨.len 7 (.t 6), some 7, none, false⟩, ⟨.mov 8 (.k (.v (.int .i64 0))), some 8, none, false⟩]
def r_impl_orderBy_3 : List GI := [⟨.bin 9 .lss (.t 8) (.t 7), some 9, none, false⟩]
def r_impl_orderBy_4 : List GI := [⟨.iad 10 6 (.t 8) 2, some 10, none, false⟩, ⟨.lod 11 10 (some 2), some 11, none, false⟩, ⟨.alloc 5 2000005 [.v (.int .i64 0), .v (.bool false)], some 5, none, false⟩, ⟨.sto 5 (.t 11) (some 2), none, none, false⟩]
def r_impl_orderBy_5 : List GI := [⟨.mov 12 (.t 3), some 12, none, false⟩, ⟨.lod 13 5 (some 2), some 13, none, false⟩, ⟨.call 14 45 [.t 13], some 14, none, true⟩, ⟨.call 15 44 [.t 12, .t 14], some 15, none, true⟩, ⟨.mov 3 (.t 15), some 3, none, false⟩]
def r_impl_orderBy_6 : List GI := [⟨.bin 16 .add (.t 8) (.k (.v (.int .i64 1))), some 16, none, false⟩, ⟨.mov 8 (.t 16), some 8, none, false⟩]
def r_impl_orderBy_7 : List GI := [⟨.mov 17 (.t 3), some 17, none, false⟩, ⟨.mov 2 (.t 17), some 2, none, false⟩]
def dc_impl_orderBy : DC := .seq (.reg r_impl_orderBy_0 none) (.seq (.reg r_impl_orderBy_1 none) (.seq (.seq (.reg r_impl_orderBy_2 none) (.block 0 (.loop (.seq (.reg r_impl_orderBy_3 none) (.seq (.cond (.t 9) .skip (.exit 0)) (.seq (.block 1 (.seq (.reg r_impl_orderBy_4 none) (.reg r_impl_orderBy_5 none))) (.reg r_impl_orderBy_6 none))))))) (.seq (.reg r_impl_orderBy_7 none) .ret)))
theorem c_impl_orderBy : cfun Try.prog [] 23 = some (18, dc_impl_orderBy, [(Res.tmp 2)]) := by kernel_rfl
def r_impl_rowOrder_reversed_0 : List GI := [⟨.box 1 2000001 (.t 0) none, some 1, none, false⟩, ⟨.mov 2 (.k (.v .nilFunc)), some 2, none, false⟩]
def r_impl_rowOrder_reversed_1 : List GI := [⟨.mkf 3 62 [.t 1], some 3, none, false⟩, ⟨.mov 2 (.t 3), some 2, none, false⟩]
def dc_impl_rowOrder_reversed : DC := .seq (.reg r_impl_rowOrder_reversed_0 none) (.seq (.reg r_impl_rowOrder_reversed_1 none) .ret)
theorem c_impl_rowOrder_reversed : cfun Try.prog [] 59 = some (4, dc_impl_rowOrder_reversed, [(Res.tmp 2)]) := by kernel_rfl
end
end Go.Proofs.Ytkfmglbnicbooaa
