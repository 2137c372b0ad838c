/-
  Functions of the program read as code on plain data. Closed facts of the program alone.
-/
import Derived.KernelRfl
import Derived.Test.YtgpdmgaemhelgaaGreatRows
import Derived.Test.YtgpdmgaemhelgaaGreatJSVBox
import Derived.Test.YtgpdmgaemhelgaaGreatJSVYld
namespace Go.Proofs.YtgpdmgaemhelgaaGreat
open Go.RowKit
noncomputable section
def r_Z24_0 : List GI:=[gi 2 (.mov 2 (.k (.v (.bool false))))]
def r_Z24_1 : List GI:=[gt 9 0,gn 10 9,gd 11 .gtr 10 1048576]
def r_Z24_2 : List GI:=[gi 2 (.mov 2 (.k (.v (.bool true))))]
def r_Z24_3 : List GI:=[gt 13 0,gc 14 34 [.t 13],gt 12 14,gi 15 (.ext 15 12 0),gi 16 (.ext 16 12 1),gi 3 (.alloc 3 2000003 [I 0,I 0,.nul,.nul,.nul]),g0 (.sto 3 (.t 15) (some 5)),gt 4 16]
def r_Z24_4 : List GI:=[gs 18 3 5,gt 19 4,gc 20 35 [.t 18,.t 19],gt 17 20,gi 21 (.ext 21 17 0),gi 22 (.ext 22 17 1),gi 5 (.alloc 5 2000005 [I 0,I 0,.nul,.nul,.nul]),g0 (.sto 5 (.t 21) (some 5)),gt 6 22]
def r_Z24_5 : List GI:=[gs 24 3 5,gt 25 4,gc 26 36 [.t 24,.t 25],gt 23 26,gi 27 (.ext 27 23 0),gi 28 (.ext 28 23 1),gi 7 (.alloc 7 2000007 [I 0,I 0,.nul,.nul,.nul]),g0 (.sto 7 (.t 27) (some 5)),gt 8 28]
def r_Z24_6 : List GI:=[gs 29 5 5,gs 30 7 5,gc 31 18 [.t 29,.t 30],gi 32 (.un 32 UnOp.not (.t 31)),gt 33 32,⟨.mov 34 (.t 6),some 34,some (33,false),false⟩,⟨.mov 35 (.t 8),some 35,some (33,false),false⟩,⟨.call 36 23 [.t 34,.t 35],some 36,some (33,false),true⟩,⟨.un 37 UnOp.not (.t 36),some 37,some (33,false),false⟩,gi 38 (.pick 38 (.t 33) (.k (.v (.bool true))) (.t 37)),gt 39 38,⟨.lod 40 3 (some 5),some 40,some (39,false),false⟩,⟨.mov 41 (.t 4),some 41,some (39,false),false⟩,⟨.call 42 19 [.t 40,.t 41],some 42,some (39,false),true⟩,⟨.bin 43 .eql (.t 42) (.k (I 0)),some 43,some (39,false),false⟩,gi 44 (.pick 44 (.t 39) (.k (.v (.bool true))) (.t 43))]
def r_Z24_7 : List GI:=[gs 45 5 5,gs 46 7 5,gc 47 18 [.t 45,.t 46],gt 48 47,⟨.mov 49 (.t 6),some 49,some (48,true),false⟩,⟨.mov 50 (.t 8),some 50,some (48,true),false⟩,⟨.call 51 23 [.t 49,.t 50],some 51,some (48,true),true⟩,gi 52 (.pick 52 (.t 48) (.t 51) (.k (.v (.bool false)))),gt 2 52]
def r_Z24_8 : List GI:=[gs 53 5 5,gt 54 4,gc 55 19 [.t 53,.t 54],gs 56 3 5,gt 57 4,gc 58 19 [.t 56,.t 57],gb 59 .eql 55 58,gt 60 59,⟨.lod 61 5 (some 5),some 61,some (60,true),false⟩,⟨.mov 62 (.t 4),some 62,some (60,true),false⟩,⟨.call 63 21 [.t 61,.t 62],some 63,some (60,true),true⟩,⟨.lod 64 3 (some 5),some 64,some (60,true),false⟩,⟨.mov 65 (.t 4),some 65,some (60,true),false⟩,⟨.call 66 21 [.t 64,.t 65],some 66,some (60,true),true⟩,⟨.call 67 20 [.t 63,.t 66],some 67,some (60,true),true⟩,gi 68 (.pick 68 (.t 60) (.t 67) (.k (.v (.bool false)))),gt 2 68]
def dc_Z24 : DC:=.seq (.z r_Z24_0) (.seq (.seq (.z r_Z24_1) (.cond (.t 11) (.seq (.z r_Z24_2) .ret) .skip)) (.seq (.z r_Z24_3) (.seq (.z r_Z24_4) (.seq (.z r_Z24_5) (.seq (.seq (.z r_Z24_6) (.cond (.t 44) (.seq (.z r_Z24_7) .ret) .skip)) (.seq (.reg r_Z24_8 (some [0,0,3,0,0,31,63,127,255,255,1023,255,255,8191,16383,32767,65535])) .ret))))))
theorem c_Z24 : cfun Tryz.prog [] 12 = some (69,dc_Z24,[(Res.tmp 2)]):=by kernel_rfl
end
end Go.Proofs.YtgpdmgaemhelgaaGreat
