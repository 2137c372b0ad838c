/-
  Functions of the program read as code on plain data. Closed facts of the program alone.
-/
import Derived.KernelRfl
import Derived.Test.YtgpdmgaemhelgaaGreatRows
import Derived.Test.YtgpdmgaemhelgaaGreatJSVGo
import Derived.Test.YtgpdmgaemhelgaaGreatJSVFrzB
namespace Go.Proofs.YtgpdmgaemhelgaaGreat
open Go.RowKit
noncomputable section
def r_Z13_0 : List GI:=[gi 4 (.box 4 2000004 (.t 0) (some 5)),gi 5 (.box 5 2000005 (.t 1) (some 5)),gi 8 (.mov 8 (.k (.v (.bool false))))]
def r_Z13_1 : List GI:=[gt 16 2,gn 17 16,gd 18 .gtr 17 1048576]
def r_Z13_2 : List GI:=[gi 8 (.mov 8 (.k (.v (.bool true))))]
def r_Z13_3 : List GI:=[gk 9 1048576]
def r_Z13_4 : List GI:=[gs 19 4 5,gt 20 9,gc 21 40 [.t 19,.t 20],gt 9 21]
def r_Z13_5 : List GI:=[gt 22 9,gd 23 .lss 22 0]
def r_Z13_6 : List GI:=[gi 8 (.mov 8 (.k (.v (.bool true))))]
def r_Z13_7 : List GI:=[gs 24 5 5,gt 25 9,gc 26 40 [.t 24,.t 25],gt 9 26]
def r_Z13_8 : List GI:=[gt 27 9,gd 28 .lss 27 0]
def r_Z13_9 : List GI:=[gi 8 (.mov 8 (.k (.v (.bool true))))]
def r_Z13_10 : List GI:=[gt 29 3,gt 30 9,gc 31 41 [.t 29,.t 30],gt 9 31]
def r_Z13_11 : List GI:=[gt 32 9,gd 33 .lss 32 0]
def r_Z13_12 : List GI:=[gi 8 (.mov 8 (.k (.v (.bool true))))]
def r_Z13_13 : List GI:=[gs 34 4 5,gc 35 42 [.t 34],gs 36 5 5,gc 37 42 [.t 36],gt 38 2,gc 39 43 [.t 38],gt 40 3,gc 41 44 [.t 40],gc 42 33 [.t 35,.t 37,.t 39,.t 41],gt 10 42]
def r_Z13_14 : List GI:=[gs 43 4 5,gc 44 42 [.t 43],gi 11 (.alloc 11 2000011 [I 0,I 0,.nul,.nul,.nul]),g0 (.sto 11 (.t 44) (some 5))]
def r_Z13_15 : List GI:=[gs 45 5 5,gc 46 42 [.t 45],gi 12 (.alloc 12 2000012 [I 0,I 0,.nul,.nul,.nul]),g0 (.sto 12 (.t 46) (some 5))]
def r_Z13_16 : List GI:=[gt 47 2,gc 48 43 [.t 47],gt 13 48]
def r_Z13_17 : List GI:=[gt 49 3,gc 50 44 [.t 49],gt 14 50]
def r_Z13_18 : List GI:=[gs 51 11 5,gs 52 12 5,gt 53 13,gt 54 14,gc 55 32 [.t 51,.t 52,.t 53,.t 54],gt 15 55]
def r_Z13_19 : List GI:=[gt 56 15,gt 57 10,gi 58 (.beq 58 true (.t 56) (.t 57))]
def r_Z13_20 : List GI:=[gi 8 (.mov 8 (.k (.v (.bool false))))]
def r_Z13_21 : List GI:=[gs 59 11 5,gs 60 4 5,gc 61 42 [.t 60],gc 62 45 [.t 59,.t 61],gi 63 (.un 63 UnOp.not (.t 62))]
def r_Z13_22 : List GI:=[gi 8 (.mov 8 (.k (.v (.bool false))))]
def r_Z13_23 : List GI:=[gs 64 12 5,gs 65 5 5,gc 66 42 [.t 65],gc 67 45 [.t 64,.t 66],gi 68 (.un 68 UnOp.not (.t 67))]
def r_Z13_24 : List GI:=[gi 8 (.mov 8 (.k (.v (.bool false))))]
def r_Z13_25 : List GI:=[gt 69 13,gt 70 2,gc 71 43 [.t 70],gc 72 46 [.t 69,.t 71],gi 73 (.un 73 UnOp.not (.t 72))]
def r_Z13_26 : List GI:=[gi 8 (.mov 8 (.k (.v (.bool false))))]
def r_Z13_27 : List GI:=[gt 74 14,gt 75 3,gc 76 44 [.t 75],gc 77 47 [.t 74,.t 76],gi 78 (.un 78 UnOp.not (.t 77))]
def r_Z13_28 : List GI:=[gi 8 (.mov 8 (.k (.v (.bool false))))]
def r_Z13_29 : List GI:=[gi 8 (.mov 8 (.k (.v (.bool true))))]
def dc_Z13 : DC:=.seq (.z r_Z13_0) (.seq (.seq (.z r_Z13_1) (.cond (.t 18) (.seq (.z r_Z13_2) .ret) .skip)) (.seq (.z r_Z13_3) (.seq (.z r_Z13_4) (.seq (.seq (.z r_Z13_5) (.cond (.t 23) (.seq (.z r_Z13_6) .ret) .skip)) (.seq (.z r_Z13_7) (.seq (.seq (.z r_Z13_8) (.cond (.t 28) (.seq (.z r_Z13_9) .ret) .skip)) (.seq (.z r_Z13_10) (.seq (.seq (.z r_Z13_11) (.cond (.t 33) (.seq (.z r_Z13_12) .ret) .skip)) (.seq (.reg r_Z13_13 (some [0,1,0,7,0,31,0,127,255,511])) (.seq (.z r_Z13_14) (.seq (.z r_Z13_15) (.seq (.z r_Z13_16) (.seq (.z r_Z13_17) (.seq (.z r_Z13_18) (.seq (.seq (.z r_Z13_19) (.cond (.t 58) (.seq (.z r_Z13_20) .ret) .skip)) (.seq (.seq (.reg r_Z13_21 (some [0,0,2,7,15])) (.cond (.t 63) (.seq (.z r_Z13_22) .ret) .skip)) (.seq (.seq (.reg r_Z13_23 (some [0,0,2,7,15])) (.cond (.t 68) (.seq (.z r_Z13_24) .ret) .skip)) (.seq (.seq (.z r_Z13_25) (.cond (.t 73) (.seq (.z r_Z13_26) .ret) .skip)) (.seq (.seq (.z r_Z13_27) (.cond (.t 78) (.seq (.z r_Z13_28) .ret) .skip)) (.seq (.z r_Z13_29) .ret))))))))))))))))))))
theorem c_Z13 : cfun Tryz.prog [] 13 = some (79,dc_Z13,[(Res.tmp 8)]):=by kernel_rfl
end
end Go.Proofs.YtgpdmgaemhelgaaGreat
