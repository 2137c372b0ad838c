/-
  Functions of the program read as code on plain data. Closed facts of the program alone.
-/
import Derived.KernelRfl
import Derived.Test.YtclkehekhdfnnaaRows
import Derived.Test.YtclkehekhdfnnaaJSVLib
import Derived.Test.YtclkehekhdfnnaaKSVGi
namespace Go.Proofs.Ytclkehekhdfnnaa
open Go.RowKit
noncomputable section
def r_Z2_0 : List GI:=[gi 2 (.mov 2 (.k (.v (.bool false))))]
def r_Z2_1 : List GI:=[gk 3 1048576]
def r_Z2_2 : List GI:=[gt 11 0,gt 12 3,gc 13 17 [.t 11,.t 12],gt 3 13]
def r_Z2_3 : List GI:=[gt 14 3,gd 15 .lss 14 0]
def r_Z2_4 : List GI:=[gi 2 (.mov 2 (.k (.v (.bool true))))]
def r_Z2_5 : List GI:=[gt 16 0,gc 17 19 [.t 16],gc 18 18 [.t 17],gi 4 (.alloc 4 2000004 [I 0,I 0,.v (.bool false),I 0,.nul]),g0 (.sto 4 (.t 18) (some 5))]
def r_Z2_6 : List GI:=[gt 19 0,gc 20 19 [.t 19],gt 5 20]
def r_Z2_7 : List GI:=[gt 21 5,gc 22 20 [.t 21],gi 6 (.alloc 6 2000006 [I 0,I 0,.v (.bool false),I 0,.nul]),g0 (.sto 6 (.t 22) (some 5))]
def r_Z2_8 : List GI:=[gs 23 6 5,gs 24 4 5,gc 25 13 [.t 23,.t 24],gi 26 (.un 26 UnOp.not (.t 25))]
def r_Z2_9 : List GI:=[gi 2 (.mov 2 (.k (.v (.bool false))))]
def r_Z2_10 : List GI:=[gt 27 5,gt 28 0,gc 29 19 [.t 28],gc 30 21 [.t 27,.t 29],gi 31 (.un 31 UnOp.not (.t 30))]
def r_Z2_11 : List GI:=[gi 2 (.mov 2 (.k (.v (.bool false))))]
def r_Z2_12 : List GI:=[gk 7 1]
def r_Z2_13 : List GI:=[gt 32 5,gt 33 7,gc 34 22 [.t 32,.t 33],gt 7 34]
def r_Z2_14 : List GI:=[gt 35 7,gd 36 .lss 35 0,gt 37 36,⟨.lod 38 6 (some 5),some 38,some (37,false),false⟩,⟨.lod 39 4 (some 5),some 39,some (37,false),false⟩,⟨.call 40 13 [.t 38,.t 39],some 40,some (37,false),true⟩,⟨.un 41 UnOp.not (.t 40),some 41,some (37,false),false⟩,gi 42 (.pick 42 (.t 37) (.k (.v (.bool true))) (.t 41))]
def r_Z2_15 : List GI:=[gi 2 (.mov 2 (.k (.v (.bool false))))]
def r_Z2_16 : List GI:=[gk 8 1]
def r_Z2_17 : List GI:=[gs 43 6 5,gt 44 8,gc 45 14 [.t 43,.t 44],gt 8 45]
def r_Z2_18 : List GI:=[gk 9 1]
def r_Z2_19 : List GI:=[gs 46 6 5,gt 47 9,gc 48 23 [.t 46,.t 47],gt 9 48]
def r_Z2_20 : List GI:=[gt 49 9,gd 50 .lss 49 0]
def r_Z2_21 : List GI:=[gi 2 (.mov 2 (.k (.v (.bool false))))]
def r_Z2_22 : List GI:=[gt 51 9,gt 52 8,gb 53 .neq 51 52]
def r_Z2_23 : List GI:=[gi 2 (.mov 2 (.k (.v (.bool false))))]
def r_Z2_24 : List GI:=[gt 54 0,gc 55 19 [.t 54],gc 56 20 [.t 55],gi 10 (.alloc 10 2000010 [I 0,I 0,.v (.bool false),I 0,.nul]),g0 (.sto 10 (.t 56) (some 5))]
def r_Z2_25 : List GI:=[gs 57 10 5,gs 58 4 5,gc 59 13 [.t 57,.t 58],gi 60 (.un 60 UnOp.not (.t 59))]
def r_Z2_26 : List GI:=[gi 2 (.mov 2 (.k (.v (.bool false))))]
def r_Z2_27 : List GI:=[gk 9 1]
def r_Z2_28 : List GI:=[gs 61 6 5,gt 62 9,gc 63 23 [.t 61,.t 62],gt 9 63]
def r_Z2_29 : List GI:=[gt 64 9,gd 65 .lss 64 0]
def r_Z2_30 : List GI:=[gi 2 (.mov 2 (.k (.v (.bool false))))]
def r_Z2_31 : List GI:=[gt 66 9,gt 67 8,gb 68 .neq 66 67]
def r_Z2_32 : List GI:=[gi 2 (.mov 2 (.k (.v (.bool false))))]
def r_Z2_33 : List GI:=[gi 2 (.mov 2 (.k (.v (.bool true))))]
def dc_Z2 : DC:=.seq (.z r_Z2_0) (.seq (.z r_Z2_1) (.seq (.z r_Z2_2) (.seq (.seq (.z r_Z2_3) (.cond (.t 15) (.seq (.z r_Z2_4) .ret) .skip)) (.seq (.z r_Z2_5) (.seq (.z r_Z2_6) (.seq (.z r_Z2_7) (.seq (.seq (.z r_Z2_8) (.cond (.t 26) (.seq (.z r_Z2_9) .ret) .skip)) (.seq (.seq (.z r_Z2_10) (.cond (.t 31) (.seq (.z r_Z2_11) .ret) .skip)) (.seq (.z r_Z2_12) (.seq (.z r_Z2_13) (.seq (.seq (.z r_Z2_14) (.cond (.t 42) (.seq (.z r_Z2_15) .ret) .skip)) (.seq (.z r_Z2_16) (.seq (.z r_Z2_17) (.seq (.z r_Z2_18) (.seq (.z r_Z2_19) (.seq (.seq (.z r_Z2_20) (.cond (.t 50) (.seq (.z r_Z2_21) .ret) .skip)) (.seq (.seq (.z r_Z2_22) (.cond (.t 53) (.seq (.z r_Z2_23) .ret) .skip)) (.seq (.z r_Z2_24) (.seq (.seq (.z r_Z2_25) (.cond (.t 60) (.seq (.z r_Z2_26) .ret) .skip)) (.seq (.z r_Z2_27) (.seq (.z r_Z2_28) (.seq (.seq (.z r_Z2_29) (.cond (.t 65) (.seq (.z r_Z2_30) .ret) .skip)) (.seq (.seq (.z r_Z2_31) (.cond (.t 68) (.seq (.z r_Z2_32) .ret) .skip)) (.seq (.z r_Z2_33) .ret))))))))))))))))))))))))
theorem c_Z2 : cfun Try.prog [] 4 = some (69,dc_Z2,[(Res.tmp 2)]):=by kernel_rfl
end
end Go.Proofs.Ytclkehekhdfnnaa
