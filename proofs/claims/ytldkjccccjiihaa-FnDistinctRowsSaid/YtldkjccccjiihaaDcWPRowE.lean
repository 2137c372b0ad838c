/-
  Functions of the program read as code on plain data. Closed facts of the program alone.
-/
import Derived.Test.YtldkjccccjiihaaRows
import Derived.Test.YtldkjccccjiihaaVLib
import Derived.KernelRfl
namespace Go.Proofs.Ytldkjccccjiihaa
open Go.RowKit
noncomputable section
def r_laws_equalRows_0 : List GI := [⟨.mov 4 (.k (.v (.bool false))), some 4, none, false⟩]
def r_laws_equalRows_1 : List GI := [⟨.mov 6 (.t 0), some 6, none, false⟩, ⟨.len 7 (.t 6), some 7, none, false⟩, ⟨.mov 8 (.t 1), some 8, none, false⟩, ⟨.len 9 (.t 8), some 9, none, false⟩, ⟨.bin 10 .neq (.t 7) (.t 9), some 10, none, false⟩]
def r_laws_equalRows_2 : List GI := [⟨.mov 4 (.k (.v (.bool false))), some 4, none, false⟩]
def r_laws_equalRows_3 : List GI := [⟨.mov 5 (.k (.v (.int .i64 0))), some 5, none, false⟩]
def r_laws_equalRows_4 : List GI := [⟨.mov 11 (.t 5), some 11, none, false⟩, ⟨.mov 12 (.t 0), some 12, none, false⟩, ⟨.len 13 (.t 12), some 13, none, false⟩, ⟨.bin 14 .lss (.t 11) (.t 13), some 14, none, false⟩]
def r_laws_equalRows_5 : List GI := [⟨.mov 17 (.t 0), some 17, none, false⟩, ⟨.mov 18 (.t 5), some 18, none, false⟩, ⟨.iad 19 17 (.t 18) 2, some 19, none, false⟩, ⟨.lod 20 19 (some 2), some 20, none, false⟩, ⟨.mov 21 (.t 1), some 21, none, false⟩, ⟨.mov 22 (.t 5), some 22, none, false⟩, ⟨.iad 23 21 (.t 22) 2, some 23, none, false⟩, ⟨.lod 24 23 (some 2), some 24, none, false⟩, ⟨.eqs 25 true [false, true] (.t 20) (.t 24), some 25, none, false⟩]
def r_laws_equalRows_6 : List GI := [⟨.mov 4 (.k (.v (.bool false))), some 4, none, false⟩]
def r_laws_equalRows_7 : List GI := [⟨.mov 15 (.t 5), some 15, none, false⟩, ⟨.bin 16 .add (.t 15) (.k (.v (.int .i64 1))), some 16, none, false⟩, ⟨.mov 5 (.t 16), some 5, none, false⟩]
def r_laws_equalRows_8 : List GI := [⟨.mov 4 (.k (.v (.bool true))), some 4, none, false⟩]
def dc_laws_equalRows : DC := .seq (.reg r_laws_equalRows_0 none) (.seq (.seq (.reg r_laws_equalRows_1 none) (.cond (.t 10) (.seq (.reg r_laws_equalRows_2 none) .ret) .skip)) (.seq (.seq (.reg r_laws_equalRows_3 none) (.block 0 (.loop (.seq (.seq (.reg r_laws_equalRows_4 none) (.cond (.t 14) .skip (.exit 0))) (.seq (.block 1 (.seq (.reg r_laws_equalRows_5 (some [0, 0, 3, 7, 0, 0, 48, 112, 255])) (.cond (.t 25) (.seq (.reg r_laws_equalRows_6 none) .ret) .skip))) (.reg r_laws_equalRows_7 none)))))) (.seq (.reg r_laws_equalRows_8 none) .ret)))
theorem c_laws_equalRows : cfun Try.prog [] 9 = some (26, dc_laws_equalRows, [(Res.tmp 4)]) := by kernel_rfl
end
end Go.Proofs.Ytldkjccccjiihaa
