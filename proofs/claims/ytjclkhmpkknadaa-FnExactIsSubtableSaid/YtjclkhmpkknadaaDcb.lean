/-
  Functions of the program read as code on plain data. Closed facts of the program alone.
-/
import Derived.Test.YtjclkhmpkknadaaRows
import Derived.Test.YtjclkhmpkknadaaVLib
import Derived.KernelRfl
namespace Go.Proofs.Ytjclkhmpkknadaa
open Go.RowKit
noncomputable section
def r_spec_countRow_0 : List GI := [⟨.mov 4 (.k (.v (.int .i64 0))), some 4, none, false⟩]
def r_spec_countRow_1 : List GI := [⟨.mov 5 (.k (.v (.int .i64 0))), some 5, none, false⟩]
def r_spec_countRow_2 : List GI := [⟨.mov 6 (.k (.v (.int .i64 0))), some 6, none, false⟩]
def r_spec_countRow_3 : List GI := [⟨.mov 7 (.t 6), some 7, none, false⟩, ⟨.mov 8 (.t 0), some 8, none, false⟩, ⟨.len 9 (.t 8), some 9, none, false⟩, ⟨.bin 10 .lss (.t 7) (.t 9), some 10, none, false⟩]
def r_spec_countRow_4 : List GI := [⟨.mov 13 (.t 0), some 13, none, false⟩, ⟨.mov 14 (.t 6), some 14, none, false⟩, ⟨.iad 15 13 (.t 14) 1, some 15, none, false⟩, ⟨.lod 16 15 none, some 16, none, false⟩, ⟨.mov 17 (.t 1), some 17, none, false⟩, ⟨.call 18 66 [.t 16, .t 17], some 18, none, true⟩, ⟨.bin 19 .eql (.t 18) (.k (.v (.int .i64 0))), some 19, none, false⟩]
def r_spec_countRow_5 : List GI := [⟨.mov 20 (.t 5), some 20, none, false⟩, ⟨.bin 21 .add (.t 20) (.k (.v (.int .i64 1))), some 21, none, false⟩, ⟨.mov 5 (.t 21), some 5, none, false⟩]
def r_spec_countRow_6 : List GI := [⟨.mov 11 (.t 6), some 11, none, false⟩, ⟨.bin 12 .add (.t 11) (.k (.v (.int .i64 1))), some 12, none, false⟩, ⟨.mov 6 (.t 12), some 6, none, false⟩]
def r_spec_countRow_7 : List GI := [⟨.mov 22 (.t 5), some 22, none, false⟩, ⟨.mov 4 (.t 22), some 4, none, false⟩]
def dc_spec_countRow : DC := .seq (.reg r_spec_countRow_0 none) (.seq (.reg r_spec_countRow_1 none) (.seq (.seq (.reg r_spec_countRow_2 none) (.block 0 (.loop (.seq (.seq (.reg r_spec_countRow_3 none) (.cond (.t 10) .skip (.exit 0))) (.seq (.block 1 (.seq (.reg r_spec_countRow_4 none) (.cond (.t 19) (.reg r_spec_countRow_5 none) .skip))) (.reg r_spec_countRow_6 none)))))) (.seq (.reg r_spec_countRow_7 none) .ret)))
theorem c_spec_countRow : cfun Try.prog [] 45 = some (23, dc_spec_countRow, [(Res.tmp 4)]) := by kernel_rfl
end
end Go.Proofs.Ytjclkhmpkknadaa
