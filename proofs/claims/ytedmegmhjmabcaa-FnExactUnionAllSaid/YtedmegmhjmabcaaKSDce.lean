/-
  Functions of the program read as code on plain data. Closed facts of the program alone.
-/
import Derived.KernelRfl
import Derived.Test.YtedmegmhjmabcaaRows
import Derived.Test.YtedmegmhjmabcaaJSVLib
import Derived.Test.YtedmegmhjmabcaaJSVTbD
namespace Go.Proofs.Ytedmegmhjmabcaa
open Go.RowKit
noncomputable section
def r_Z15_0 : List GI:=[gi 2 (.mov 2 (.k .nul))]
def r_Z15_1 : List GI:=[gi 3 (.mov 3 (.k .nul))]
def r_Z15_2 : List GI:=[gt 6 0,gn 7 6,gk 8 0]
def r_Z15_3 : List GI:=[gb 9 .lss 8 7]
def r_Z15_4 : List GI:=[ga 10 6 8 1,gl 11 10,gt 5 11]
def r_Z15_5 : List GI:=[gt 12 3,gt 13 5,gc 14 105 [.t 13],gi 15 (.bslx 15 2000015 1 none [.nul] [(0,.t 14)]),gi 16 (.app 16 2000016 (.t 12) (.t 15) 1 24),gt 3 16]
def r_Z15_6 : List GI:=[gd 17 .add 8 1,gt 8 17]
def r_Z15_7 : List GI:=[gt 18 3,gt 2 18]
def dc_Z15 : DC:=.seq (.z r_Z15_0) (.seq (.z r_Z15_1) (.seq (.seq (.z r_Z15_2) (.block 0 (.loop (.seq (.z r_Z15_3) (.seq (.cond (.t 9) .skip (.exit 0)) (.seq (.block 1 (.seq (.z r_Z15_4) (.z r_Z15_5))) (.z r_Z15_6))))))) (.seq (.z r_Z15_7) .ret)))
theorem c_Z15 : cfun Try.prog [15] 67 = some (19,dc_Z15,[(Res.tmp 2)]):=by kernel_rfl
end
end Go.Proofs.Ytedmegmhjmabcaa
