/-
  Functions of the program read as code on plain data. Closed facts of the program alone.
-/
import Derived.KernelRfl
import Derived.Test.YtgpdmgaemhelgaaGreatRows
import Derived.Test.YtgpdmgaemhelgaaGreatJSVGo
import Derived.Test.YtgpdmgaemhelgaaGreatJSVFrzB
namespace Go.Proofs.YtgpdmgaemhelgaaGreat
open Go.RowKit
noncomputable section
def r_Z25_0 : List GI:=[gi 2 (.box 2 2000002 (.t 0) (some 5)),gi 4 (.mov 4 (.k (.v (.bool false))))]
def r_Z25_1 : List GI:=[gt 10 1,gn 11 10,gd 12 .gtr 11 1048576]
def r_Z25_2 : List GI:=[gi 4 (.mov 4 (.k (.v (.bool true))))]
def r_Z25_3 : List GI:=[gk 5 1048576]
def r_Z25_4 : List GI:=[gs 13 2 5,gt 14 5,gc 15 40 [.t 13,.t 14],gt 5 15]
def r_Z25_5 : List GI:=[gt 16 5,gd 17 .lss 16 0]
def r_Z25_6 : List GI:=[gi 4 (.mov 4 (.k (.v (.bool true))))]
def r_Z25_7 : List GI:=[gs 18 2 5,gc 19 42 [.t 18],gt 20 1,gc 21 43 [.t 20],gc 22 39 [.t 19,.t 21],gt 6 22]
def r_Z25_8 : List GI:=[gs 23 2 5,gc 24 42 [.t 23],gi 7 (.alloc 7 2000007 [I 0,I 0,.nul,.nul,.nul]),g0 (.sto 7 (.t 24) (some 5))]
def r_Z25_9 : List GI:=[gt 25 1,gc 26 43 [.t 25],gt 8 26]
def r_Z25_10 : List GI:=[gs 27 7 5,gt 28 8,gc 29 37 [.t 27,.t 28],gt 9 29]
def r_Z25_11 : List GI:=[gt 30 9,gt 31 6,gi 32 (.beq 32 true (.t 30) (.t 31))]
def r_Z25_12 : List GI:=[gi 4 (.mov 4 (.k (.v (.bool false))))]
def r_Z25_13 : List GI:=[gs 33 7 5,gs 34 2 5,gc 35 42 [.t 34],gc 36 45 [.t 33,.t 35],gi 37 (.un 37 UnOp.not (.t 36))]
def r_Z25_14 : List GI:=[gi 4 (.mov 4 (.k (.v (.bool false))))]
def r_Z25_15 : List GI:=[gt 38 8,gt 39 1,gc 40 43 [.t 39],gc 41 46 [.t 38,.t 40],gi 42 (.un 42 UnOp.not (.t 41))]
def r_Z25_16 : List GI:=[gi 4 (.mov 4 (.k (.v (.bool false))))]
def r_Z25_17 : List GI:=[gi 4 (.mov 4 (.k (.v (.bool true))))]
def dc_Z25 : DC:=.seq (.z r_Z25_0) (.seq (.seq (.z r_Z25_1) (.cond (.t 12) (.seq (.z r_Z25_2) .ret) .skip)) (.seq (.z r_Z25_3) (.seq (.z r_Z25_4) (.seq (.seq (.z r_Z25_5) (.cond (.t 17) (.seq (.z r_Z25_6) .ret) .skip)) (.seq (.z r_Z25_7) (.seq (.z r_Z25_8) (.seq (.z r_Z25_9) (.seq (.z r_Z25_10) (.seq (.seq (.z r_Z25_11) (.cond (.t 32) (.seq (.z r_Z25_12) .ret) .skip)) (.seq (.seq (.reg r_Z25_13 (some [0,0,2,7,15])) (.cond (.t 37) (.seq (.z r_Z25_14) .ret) .skip)) (.seq (.seq (.z r_Z25_15) (.cond (.t 42) (.seq (.z r_Z25_16) .ret) .skip)) (.seq (.z r_Z25_17) .ret))))))))))))
theorem c_Z25 : cfun Tryz.prog [] 14 = some (43,dc_Z25,[(Res.tmp 4)]):=by kernel_rfl
end
end Go.Proofs.YtgpdmgaemhelgaaGreat
